/- Grafting: small trees, one pair after the other. -/
import Derived.Test.YtecliakkmgoglaaDoorGrB
import Derived.KernelRfl
set_option linter.unusedVariables false
set_option linter.unusedSimpArgs false
set_option maxRecDepth 100000
namespace Go.AI.T
open Go Go.RowKit Go.AI
noncomputable section
theorem fl1 : okS flipB 60 1 = true := by kernel_rfl
theorem fl5 : okS flipB 60 5 = true := by kernel_rfl
theorem fl9 : okS flipB 60 9 = true := by kernel_rfl
theorem fl13 : okS flipB 60 13 = true := by kernel_rfl
theorem fl17 : okS flipB 60 17 = true := by kernel_rfl
theorem fl21 : okS flipB 60 21 = true := by kernel_rfl
theorem fl25 : okS flipB 60 25 = true := by kernel_rfl
theorem fl29 : okS flipB 60 29 = true := by kernel_rfl
theorem fl33 : okS flipB 60 33 = true := by kernel_rfl
theorem sm2 : okS smallB 10 2 = true := by kernel_rfl
theorem sm6 : okS smallB 10 6 = true := by kernel_rfl
theorem sm10 : okS smallB 10 10 = true := by kernel_rfl
theorem sm14 : okS smallB 10 14 = true := by kernel_rfl
theorem sm18 : okS smallB 10 18 = true := by kernel_rfl
theorem sm22 : okS smallB 10 22 = true := by kernel_rfl
theorem sm26 : okS smallB 10 26 = true := by kernel_rfl
theorem sm30 : okS smallB 10 30 = true := by kernel_rfl
theorem sm34 : okS smallB 10 34 = true := by kernel_rfl
theorem sm38 : okS smallB 10 38 = true := by kernel_rfl
theorem sm42 : okS smallB 10 42 = true := by kernel_rfl
theorem sm46 : okS smallB 10 46 = true := by kernel_rfl
theorem sm50 : okS smallB 10 50 = true := by kernel_rfl
theorem sm54 : okS smallB 10 54 = true := by kernel_rfl
theorem sm58 : okS smallB 10 58 = true := by kernel_rfl
theorem sm62 : okS smallB 10 62 = true := by kernel_rfl
theorem sm66 : okS smallB 10 66 = true := by kernel_rfl
theorem sm70 : okS smallB 10 70 = true := by kernel_rfl
theorem sm74 : okS smallB 10 74 = true := by kernel_rfl
theorem sm78 : okS smallB 10 78 = true := by kernel_rfl
theorem sm82 : okS smallB 10 82 = true := by kernel_rfl
theorem sm86 : okS smallB 10 86 = true := by kernel_rfl
theorem sm90 : okS smallB 10 90 = true := by kernel_rfl
theorem sm94 : okS smallB 10 94 = true := by kernel_rfl
theorem sm98 : okS smallB 10 98 = true := by kernel_rfl
theorem sm102 : okS smallB 10 102 = true := by kernel_rfl
theorem sm106 : okS smallB 10 106 = true := by kernel_rfl
theorem sm110 : okS smallB 10 110 = true := by kernel_rfl
theorem sm114 : okS smallB 10 114 = true := by kernel_rfl
theorem sm118 : okS smallB 10 118 = true := by kernel_rfl
theorem sm122 : okS smallB 10 122 = true := by kernel_rfl
theorem sm126 : okS smallB 10 126 = true := by kernel_rfl
theorem sm130 : okS smallB 10 130 = true := by kernel_rfl
theorem sm134 : okS smallB 10 134 = true := by kernel_rfl
theorem sm138 : okS smallB 10 138 = true := by kernel_rfl
theorem sm142 : okS smallB 10 142 = true := by kernel_rfl
theorem sm146 : okS smallB 10 146 = true := by kernel_rfl
theorem sm150 : okS smallB 10 150 = true := by kernel_rfl
theorem sm154 : okS smallB 10 154 = true := by kernel_rfl
theorem sm158 : okS smallB 10 158 = true := by kernel_rfl
theorem sm162 : okS smallB 10 162 = true := by kernel_rfl
theorem sm166 : okS smallB 10 166 = true := by kernel_rfl
theorem sm170 : okS smallB 10 170 = true := by kernel_rfl
theorem sm174 : okS smallB 10 174 = true := by kernel_rfl
theorem sm178 : okS smallB 10 178 = true := by kernel_rfl
theorem sm182 : okS smallB 10 182 = true := by kernel_rfl
theorem sm186 : okS smallB 10 186 = true := by kernel_rfl
theorem sm190 : okS smallB 10 190 = true := by kernel_rfl
theorem sm194 : okS smallB 10 194 = true := by kernel_rfl
theorem sm198 : okS smallB 10 198 = true := by kernel_rfl
theorem sm202 : okS smallB 10 202 = true := by kernel_rfl
end
end Go.AI.T
