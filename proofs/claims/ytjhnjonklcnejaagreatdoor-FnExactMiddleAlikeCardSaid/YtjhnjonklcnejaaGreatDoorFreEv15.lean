/- The evaluation, part 15. -/
import Derived.Test.YtjhnjonklcnejaaGreatDoorFreFn
import Derived.KernelRfl
set_option linter.unusedVariables false
set_option linter.unusedSimpArgs false
set_option maxRecDepth 100000
namespace Go.AI.T
open Go Go.RowKit Go.AI
noncomputable section
theorem e192 : okS ok_Fre 8 192 = true := by kernel_rfl
theorem e193 : okS ok_Fre 8 193 = true := by kernel_rfl
theorem e194 : okS ok_Fre 8 194 = true := by kernel_rfl
theorem e195 : okS ok_Fre 8 195 = true := by kernel_rfl
theorem e196 : okS ok_Fre 8 196 = true := by kernel_rfl
theorem e197 : okS ok_Fre 8 197 = true := by kernel_rfl
theorem e198 : okS ok_Fre 8 198 = true := by kernel_rfl
theorem e199 : okS ok_Fre 8 199 = true := by kernel_rfl
theorem e200 : okS ok_Fre 8 200 = true := by kernel_rfl
theorem e201 : okS ok_Fre 8 201 = true := by kernel_rfl
theorem e202 : okS ok_Fre 8 202 = true := by kernel_rfl
theorem e203 : okS ok_Fre 8 203 = true := by kernel_rfl
theorem e204 : okS ok_Fre 8 204 = true := by kernel_rfl
theorem e_15 : okL ok_Fre 8 192 13 = true := (cc e192 (cc e193 (cc e194 (cc e195 (cc e196 (cc e197 (cc e198 (cc e199 (cc e200 (cc e201 (cc e202 (cc e203 (cc e204 rfl)))))))))))))
end
end Go.AI.T
