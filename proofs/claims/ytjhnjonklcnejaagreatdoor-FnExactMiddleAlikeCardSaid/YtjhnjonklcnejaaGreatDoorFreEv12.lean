/- The evaluation, part 12. -/
import Derived.Test.YtjhnjonklcnejaaGreatDoorFreFn
import Derived.KernelRfl
set_option linter.unusedVariables false
set_option linter.unusedSimpArgs false
set_option maxRecDepth 100000
namespace Go.AI.T
open Go Go.RowKit Go.AI
noncomputable section
theorem e154 : okS ok_Fre 8 154 = true := by kernel_rfl
theorem e155 : okS ok_Fre 8 155 = true := by kernel_rfl
theorem e156 : okS ok_Fre 8 156 = true := by kernel_rfl
theorem e157 : okS ok_Fre 8 157 = true := by kernel_rfl
theorem e158 : okS ok_Fre 8 158 = true := by kernel_rfl
theorem e159 : okS ok_Fre 8 159 = true := by kernel_rfl
theorem e160 : okS ok_Fre 8 160 = true := by kernel_rfl
theorem e161 : okS ok_Fre 8 161 = true := by kernel_rfl
theorem e162 : okS ok_Fre 8 162 = true := by kernel_rfl
theorem e163 : okS ok_Fre 8 163 = true := by kernel_rfl
theorem e164 : okS ok_Fre 8 164 = true := by kernel_rfl
theorem e165 : okS ok_Fre 8 165 = true := by kernel_rfl
theorem e166 : okS ok_Fre 8 166 = true := by kernel_rfl
theorem e_12 : okL ok_Fre 8 154 13 = true := (cc e154 (cc e155 (cc e156 (cc e157 (cc e158 (cc e159 (cc e160 (cc e161 (cc e162 (cc e163 (cc e164 (cc e165 (cc e166 rfl)))))))))))))
end
end Go.AI.T
