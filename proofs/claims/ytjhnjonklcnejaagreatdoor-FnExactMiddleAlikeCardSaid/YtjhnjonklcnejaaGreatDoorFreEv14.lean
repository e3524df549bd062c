/- The evaluation, part 14. -/
import Derived.Test.YtjhnjonklcnejaaGreatDoorFreFn
import Derived.KernelRfl
set_option linter.unusedVariables false
set_option linter.unusedSimpArgs false
set_option maxRecDepth 100000
namespace Go.AI.T
open Go Go.RowKit Go.AI
noncomputable section
theorem e179 : okS ok_Fre 8 179 = true := by kernel_rfl
theorem e180 : okS ok_Fre 8 180 = true := by kernel_rfl
theorem e181 : okS ok_Fre 8 181 = true := by kernel_rfl
theorem e182 : okS ok_Fre 8 182 = true := by kernel_rfl
theorem e183 : okS ok_Fre 8 183 = true := by kernel_rfl
theorem e184 : okS ok_Fre 8 184 = true := by kernel_rfl
theorem e185 : okS ok_Fre 8 185 = true := by kernel_rfl
theorem e186 : okS ok_Fre 8 186 = true := by kernel_rfl
theorem e187 : okS ok_Fre 8 187 = true := by kernel_rfl
theorem e188 : okS ok_Fre 8 188 = true := by kernel_rfl
theorem e189 : okS ok_Fre 8 189 = true := by kernel_rfl
theorem e190 : okS ok_Fre 8 190 = true := by kernel_rfl
theorem e191 : okS ok_Fre 8 191 = true := by kernel_rfl
theorem e_14 : okL ok_Fre 8 179 13 = true := (cc e179 (cc e180 (cc e181 (cc e182 (cc e183 (cc e184 (cc e185 (cc e186 (cc e187 (cc e188 (cc e189 (cc e190 (cc e191 rfl)))))))))))))
end
end Go.AI.T
