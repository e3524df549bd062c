/- Grafting: small trees, one pair after the other. -/
import Derived.Test.YtecliakkmgoglaaDoorGrB
import Derived.KernelRfl
set_option linter.unusedVariables false
set_option linter.unusedSimpArgs false
set_option maxRecDepth 100000
namespace Go.AI.T
open Go Go.RowKit Go.AI
noncomputable section
theorem fl2 : okS flipB 60 2 = true := by kernel_rfl
theorem fl6 : okS flipB 60 6 = true := by kernel_rfl
theorem fl10 : okS flipB 60 10 = true := by kernel_rfl
theorem fl14 : okS flipB 60 14 = true := by kernel_rfl
theorem fl18 : okS flipB 60 18 = true := by kernel_rfl
theorem fl22 : okS flipB 60 22 = true := by kernel_rfl
theorem fl26 : okS flipB 60 26 = true := by kernel_rfl
theorem fl30 : okS flipB 60 30 = true := by kernel_rfl
theorem fl34 : okS flipB 60 34 = true := by kernel_rfl
theorem sm3 : okS smallB 10 3 = true := by kernel_rfl
theorem sm7 : okS smallB 10 7 = true := by kernel_rfl
theorem sm11 : okS smallB 10 11 = true := by kernel_rfl
theorem sm15 : okS smallB 10 15 = true := by kernel_rfl
theorem sm19 : okS smallB 10 19 = true := by kernel_rfl
theorem sm23 : okS smallB 10 23 = true := by kernel_rfl
theorem sm27 : okS smallB 10 27 = true := by kernel_rfl
theorem sm31 : okS smallB 10 31 = true := by kernel_rfl
theorem sm35 : okS smallB 10 35 = true := by kernel_rfl
theorem sm39 : okS smallB 10 39 = true := by kernel_rfl
theorem sm43 : okS smallB 10 43 = true := by kernel_rfl
theorem sm47 : okS smallB 10 47 = true := by kernel_rfl
theorem sm51 : okS smallB 10 51 = true := by kernel_rfl
theorem sm55 : okS smallB 10 55 = true := by kernel_rfl
theorem sm59 : okS smallB 10 59 = true := by kernel_rfl
theorem sm63 : okS smallB 10 63 = true := by kernel_rfl
theorem sm67 : okS smallB 10 67 = true := by kernel_rfl
theorem sm71 : okS smallB 10 71 = true := by kernel_rfl
theorem sm75 : okS smallB 10 75 = true := by kernel_rfl
theorem sm79 : okS smallB 10 79 = true := by kernel_rfl
theorem sm83 : okS smallB 10 83 = true := by kernel_rfl
theorem sm87 : okS smallB 10 87 = true := by kernel_rfl
theorem sm91 : okS smallB 10 91 = true := by kernel_rfl
theorem sm95 : okS smallB 10 95 = true := by kernel_rfl
theorem sm99 : okS smallB 10 99 = true := by kernel_rfl
theorem sm103 : okS smallB 10 103 = true := by kernel_rfl
theorem sm107 : okS smallB 10 107 = true := by kernel_rfl
theorem sm111 : okS smallB 10 111 = true := by kernel_rfl
theorem sm115 : okS smallB 10 115 = true := by kernel_rfl
theorem sm119 : okS smallB 10 119 = true := by kernel_rfl
theorem sm123 : okS smallB 10 123 = true := by kernel_rfl
theorem sm127 : okS smallB 10 127 = true := by kernel_rfl
theorem sm131 : okS smallB 10 131 = true := by kernel_rfl
theorem sm135 : okS smallB 10 135 = true := by kernel_rfl
theorem sm139 : okS smallB 10 139 = true := by kernel_rfl
theorem sm143 : okS smallB 10 143 = true := by kernel_rfl
theorem sm147 : okS smallB 10 147 = true := by kernel_rfl
theorem sm151 : okS smallB 10 151 = true := by kernel_rfl
theorem sm155 : okS smallB 10 155 = true := by kernel_rfl
theorem sm159 : okS smallB 10 159 = true := by kernel_rfl
theorem sm163 : okS smallB 10 163 = true := by kernel_rfl
theorem sm167 : okS smallB 10 167 = true := by kernel_rfl
theorem sm171 : okS smallB 10 171 = true := by kernel_rfl
theorem sm175 : okS smallB 10 175 = true := by kernel_rfl
theorem sm179 : okS smallB 10 179 = true := by kernel_rfl
theorem sm183 : okS smallB 10 183 = true := by kernel_rfl
theorem sm187 : okS smallB 10 187 = true := by kernel_rfl
theorem sm191 : okS smallB 10 191 = true := by kernel_rfl
theorem sm195 : okS smallB 10 195 = true := by kernel_rfl
theorem sm199 : okS smallB 10 199 = true := by kernel_rfl
theorem sm203 : okS smallB 10 203 = true := by kernel_rfl
end
end Go.AI.T
