/- Grafting: small trees, one pair after the other. -/
import Derived.Test.YtecliakkmgoglaaDoorGrB
import Derived.KernelRfl
set_option linter.unusedVariables false
set_option linter.unusedSimpArgs false
set_option maxRecDepth 100000
namespace Go.AI.T
open Go Go.RowKit Go.AI
noncomputable section
theorem fl0 : okS flipB 60 0 = true := by kernel_rfl
theorem fl4 : okS flipB 60 4 = true := by kernel_rfl
theorem fl8 : okS flipB 60 8 = true := by kernel_rfl
theorem fl12 : okS flipB 60 12 = true := by kernel_rfl
theorem fl16 : okS flipB 60 16 = true := by kernel_rfl
theorem fl20 : okS flipB 60 20 = true := by kernel_rfl
theorem fl24 : okS flipB 60 24 = true := by kernel_rfl
theorem fl28 : okS flipB 60 28 = true := by kernel_rfl
theorem fl32 : okS flipB 60 32 = true := by kernel_rfl
theorem sm1 : okS smallB 10 1 = true := by kernel_rfl
theorem sm5 : okS smallB 10 5 = true := by kernel_rfl
theorem sm9 : okS smallB 10 9 = true := by kernel_rfl
theorem sm13 : okS smallB 10 13 = true := by kernel_rfl
theorem sm17 : okS smallB 10 17 = true := by kernel_rfl
theorem sm21 : okS smallB 10 21 = true := by kernel_rfl
theorem sm25 : okS smallB 10 25 = true := by kernel_rfl
theorem sm29 : okS smallB 10 29 = true := by kernel_rfl
theorem sm33 : okS smallB 10 33 = true := by kernel_rfl
theorem sm37 : okS smallB 10 37 = true := by kernel_rfl
theorem sm41 : okS smallB 10 41 = true := by kernel_rfl
theorem sm45 : okS smallB 10 45 = true := by kernel_rfl
theorem sm49 : okS smallB 10 49 = true := by kernel_rfl
theorem sm53 : okS smallB 10 53 = true := by kernel_rfl
theorem sm57 : okS smallB 10 57 = true := by kernel_rfl
theorem sm61 : okS smallB 10 61 = true := by kernel_rfl
theorem sm65 : okS smallB 10 65 = true := by kernel_rfl
theorem sm69 : okS smallB 10 69 = true := by kernel_rfl
theorem sm73 : okS smallB 10 73 = true := by kernel_rfl
theorem sm77 : okS smallB 10 77 = true := by kernel_rfl
theorem sm81 : okS smallB 10 81 = true := by kernel_rfl
theorem sm85 : okS smallB 10 85 = true := by kernel_rfl
theorem sm89 : okS smallB 10 89 = true := by kernel_rfl
theorem sm93 : okS smallB 10 93 = true := by kernel_rfl
theorem sm97 : okS smallB 10 97 = true := by kernel_rfl
theorem sm101 : okS smallB 10 101 = true := by kernel_rfl
theorem sm105 : okS smallB 10 105 = true := by kernel_rfl
theorem sm109 : okS smallB 10 109 = true := by kernel_rfl
theorem sm113 : okS smallB 10 113 = true := by kernel_rfl
theorem sm117 : okS smallB 10 117 = true := by kernel_rfl
theorem sm121 : okS smallB 10 121 = true := by kernel_rfl
theorem sm125 : okS smallB 10 125 = true := by kernel_rfl
theorem sm129 : okS smallB 10 129 = true := by kernel_rfl
theorem sm133 : okS smallB 10 133 = true := by kernel_rfl
theorem sm137 : okS smallB 10 137 = true := by kernel_rfl
theorem sm141 : okS smallB 10 141 = true := by kernel_rfl
theorem sm145 : okS smallB 10 145 = true := by kernel_rfl
theorem sm149 : okS smallB 10 149 = true := by kernel_rfl
theorem sm153 : okS smallB 10 153 = true := by kernel_rfl
theorem sm157 : okS smallB 10 157 = true := by kernel_rfl
theorem sm161 : okS smallB 10 161 = true := by kernel_rfl
theorem sm165 : okS smallB 10 165 = true := by kernel_rfl
theorem sm169 : okS smallB 10 169 = true := by kernel_rfl
theorem sm173 : okS smallB 10 173 = true := by kernel_rfl
theorem sm177 : okS smallB 10 177 = true := by kernel_rfl
theorem sm181 : okS smallB 10 181 = true := by kernel_rfl
theorem sm185 : okS smallB 10 185 = true := by kernel_rfl
theorem sm189 : okS smallB 10 189 = true := by kernel_rfl
theorem sm193 : okS smallB 10 193 = true := by kernel_rfl
theorem sm197 : okS smallB 10 197 = true := by kernel_rfl
theorem sm201 : okS smallB 10 201 = true := by kernel_rfl
theorem sm205 : okS smallB 10 205 = true := by kernel_rfl
end
end Go.AI.T
