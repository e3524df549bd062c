/- Grafting: small trees, one pair after the other. -/
import Derived.Test.YtecliakkmgoglaaDoorGrB
import Derived.KernelRfl
set_option linter.unusedVariables false
set_option linter.unusedSimpArgs false
set_option maxRecDepth 100000
namespace Go.AI.T
open Go Go.RowKit Go.AI
noncomputable section
theorem fl3 : okS flipB 60 3 = true := by kernel_rfl
theorem fl7 : okS flipB 60 7 = true := by kernel_rfl
theorem fl11 : okS flipB 60 11 = true := by kernel_rfl
theorem fl15 : okS flipB 60 15 = true := by kernel_rfl
theorem fl19 : okS flipB 60 19 = true := by kernel_rfl
theorem fl23 : okS flipB 60 23 = true := by kernel_rfl
theorem fl27 : okS flipB 60 27 = true := by kernel_rfl
theorem fl31 : okS flipB 60 31 = true := by kernel_rfl
theorem sm0 : okS smallB 10 0 = true := by kernel_rfl
theorem sm4 : okS smallB 10 4 = true := by kernel_rfl
theorem sm8 : okS smallB 10 8 = true := by kernel_rfl
theorem sm12 : okS smallB 10 12 = true := by kernel_rfl
theorem sm16 : okS smallB 10 16 = true := by kernel_rfl
theorem sm20 : okS smallB 10 20 = true := by kernel_rfl
theorem sm24 : okS smallB 10 24 = true := by kernel_rfl
theorem sm28 : okS smallB 10 28 = true := by kernel_rfl
theorem sm32 : okS smallB 10 32 = true := by kernel_rfl
theorem sm36 : okS smallB 10 36 = true := by kernel_rfl
theorem sm40 : okS smallB 10 40 = true := by kernel_rfl
theorem sm44 : okS smallB 10 44 = true := by kernel_rfl
theorem sm48 : okS smallB 10 48 = true := by kernel_rfl
theorem sm52 : okS smallB 10 52 = true := by kernel_rfl
theorem sm56 : okS smallB 10 56 = true := by kernel_rfl
theorem sm60 : okS smallB 10 60 = true := by kernel_rfl
theorem sm64 : okS smallB 10 64 = true := by kernel_rfl
theorem sm68 : okS smallB 10 68 = true := by kernel_rfl
theorem sm72 : okS smallB 10 72 = true := by kernel_rfl
theorem sm76 : okS smallB 10 76 = true := by kernel_rfl
theorem sm80 : okS smallB 10 80 = true := by kernel_rfl
theorem sm84 : okS smallB 10 84 = true := by kernel_rfl
theorem sm88 : okS smallB 10 88 = true := by kernel_rfl
theorem sm92 : okS smallB 10 92 = true := by kernel_rfl
theorem sm96 : okS smallB 10 96 = true := by kernel_rfl
theorem sm100 : okS smallB 10 100 = true := by kernel_rfl
theorem sm104 : okS smallB 10 104 = true := by kernel_rfl
theorem sm108 : okS smallB 10 108 = true := by kernel_rfl
theorem sm112 : okS smallB 10 112 = true := by kernel_rfl
theorem sm116 : okS smallB 10 116 = true := by kernel_rfl
theorem sm120 : okS smallB 10 120 = true := by kernel_rfl
theorem sm124 : okS smallB 10 124 = true := by kernel_rfl
theorem sm128 : okS smallB 10 128 = true := by kernel_rfl
theorem sm132 : okS smallB 10 132 = true := by kernel_rfl
theorem sm136 : okS smallB 10 136 = true := by kernel_rfl
theorem sm140 : okS smallB 10 140 = true := by kernel_rfl
theorem sm144 : okS smallB 10 144 = true := by kernel_rfl
theorem sm148 : okS smallB 10 148 = true := by kernel_rfl
theorem sm152 : okS smallB 10 152 = true := by kernel_rfl
theorem sm156 : okS smallB 10 156 = true := by kernel_rfl
theorem sm160 : okS smallB 10 160 = true := by kernel_rfl
theorem sm164 : okS smallB 10 164 = true := by kernel_rfl
theorem sm168 : okS smallB 10 168 = true := by kernel_rfl
theorem sm172 : okS smallB 10 172 = true := by kernel_rfl
theorem sm176 : okS smallB 10 176 = true := by kernel_rfl
theorem sm180 : okS smallB 10 180 = true := by kernel_rfl
theorem sm184 : okS smallB 10 184 = true := by kernel_rfl
theorem sm188 : okS smallB 10 188 = true := by kernel_rfl
theorem sm192 : okS smallB 10 192 = true := by kernel_rfl
theorem sm196 : okS smallB 10 196 = true := by kernel_rfl
theorem sm200 : okS smallB 10 200 = true := by kernel_rfl
theorem sm204 : okS smallB 10 204 = true := by kernel_rfl
end
end Go.AI.T
