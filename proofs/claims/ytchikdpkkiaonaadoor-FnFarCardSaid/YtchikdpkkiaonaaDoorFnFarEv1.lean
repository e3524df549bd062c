/- The evaluation, part 1. -/
import Derived.Test.YtchikdpkkiaonaaDoorFnFarBad
import Derived.KernelRfl
namespace Go.AI.T
open Go Go.RowKit Go.AI
set_option linter.unusedVariables false
set_option linter.unusedSimpArgs false
set_option maxRecDepth 100000
noncomputable section
theorem evFnFar_c1 (B : Blk) : allR (ok_FnFar B) 14 0 2 (fun l => 40 :: 40 :: 41 :: 41 :: l) = true := by kernel_rfl
theorem evFnFar_c9 (B : Blk) : allR (ok_FnFar B) 6 0 6 (fun l => 40 :: 40 :: 41 :: 40 :: 41 :: 40 :: 41 :: 40 :: 40 :: 41 :: 41 :: 41 :: l) = true := by kernel_rfl
theorem evFnFar_c14 (B : Blk) : allR (ok_FnFar B) 6 4 8 (fun l => 40 :: 40 :: 41 :: 40 :: 41 :: 40 :: 41 :: 40 :: 40 :: 40 :: 41 :: 40 :: l) = true := by kernel_rfl
theorem evFnFar_c17 (B : Blk) : allR (ok_FnFar B) 6 0 6 (fun l => 40 :: 40 :: 41 :: 40 :: 41 :: 40 :: 40 :: 41 :: 41 :: 40 :: 41 :: 41 :: l) = true := by kernel_rfl
theorem evFnFar_c19 (B : Blk) : allR (ok_FnFar B) 6 2 7 (fun l => 40 :: 40 :: 41 :: 40 :: 41 :: 40 :: 40 :: 41 :: 41 :: 40 :: 40 :: 41 :: l) = true := by kernel_rfl
theorem evFnFar_c31 (B : Blk) : allR (ok_FnFar B) 6 4 8 (fun l => 40 :: 40 :: 41 :: 40 :: 41 :: 40 :: 40 :: 40 :: 41 :: 41 :: 40 :: 40 :: l) = true := by kernel_rfl
theorem evFnFar_c37 (B : Blk) : allR (ok_FnFar B) 7 5 8 (fun l => 40 :: 40 :: 41 :: 40 :: 41 :: 40 :: 40 :: 40 :: 40 :: 41 :: 40 :: l) = true := by kernel_rfl
theorem evFnFar_c49 (B : Blk) : allR (ok_FnFar B) 6 2 7 (fun l => 40 :: 40 :: 41 :: 40 :: 40 :: 41 :: 41 :: 40 :: 40 :: 40 :: 41 :: 41 :: l) = true := by kernel_rfl
theorem evFnFar_c61 (B : Blk) : allR (ok_FnFar B) 6 2 7 (fun l => 40 :: 40 :: 41 :: 40 :: 40 :: 41 :: 40 :: 41 :: 40 :: 40 :: 41 :: 41 :: l) = true := by kernel_rfl
theorem evFnFar_c71 (B : Blk) : allR (ok_FnFar B) 6 2 7 (fun l => 40 :: 40 :: 41 :: 40 :: 40 :: 41 :: 40 :: 40 :: 40 :: 41 :: 41 :: 41 :: l) = true := by kernel_rfl
theorem evFnFar_c83 (B : Blk) : allR (ok_FnFar B) 6 4 8 (fun l => 40 :: 40 :: 41 :: 40 :: 40 :: 40 :: 41 :: 41 :: 40 :: 41 :: 40 :: 40 :: l) = true := by kernel_rfl
theorem evFnFar_c87 (B : Blk) : allR (ok_FnFar B) 6 0 6 (fun l => 40 :: 40 :: 41 :: 40 :: 40 :: 40 :: 41 :: 40 :: 41 :: 41 :: 41 :: 41 :: l) = true := by kernel_rfl
theorem evFnFar_c90 (B : Blk) : allR (ok_FnFar B) 6 4 8 (fun l => 40 :: 40 :: 41 :: 40 :: 40 :: 40 :: 41 :: 40 :: 41 :: 41 :: 40 :: 40 :: l) = true := by kernel_rfl
theorem evFnFar_c96 (B : Blk) : allR (ok_FnFar B) 7 5 8 (fun l => 40 :: 40 :: 41 :: 40 :: 40 :: 40 :: 41 :: 40 :: 40 :: 41 :: 40 :: l) = true := by kernel_rfl
theorem evFnFar_c105 (B : Blk) : allR (ok_FnFar B) 6 2 7 (fun l => 40 :: 40 :: 41 :: 40 :: 40 :: 40 :: 40 :: 41 :: 40 :: 41 :: 41 :: 41 :: l) = true := by kernel_rfl
theorem evFnFar_c115 (B : Blk) : allR (ok_FnFar B) 10 0 4 (fun l => 40 :: 40 :: 40 :: 41 :: 41 :: 40 :: 41 :: 41 :: l) = true := by kernel_rfl
theorem evFnFar_c117 (B : Blk) : allR (ok_FnFar B) 6 0 6 (fun l => 40 :: 40 :: 40 :: 41 :: 41 :: 40 :: 41 :: 40 :: 41 :: 40 :: 41 :: 41 :: l) = true := by kernel_rfl
theorem evFnFar_c121 (B : Blk) : allR (ok_FnFar B) 6 0 6 (fun l => 40 :: 40 :: 40 :: 41 :: 41 :: 40 :: 41 :: 40 :: 40 :: 41 :: 41 :: 41 :: l) = true := by kernel_rfl
theorem evFnFar_c122 (B : Blk) : allR (ok_FnFar B) 6 2 7 (fun l => 40 :: 40 :: 40 :: 41 :: 41 :: 40 :: 41 :: 40 :: 40 :: 41 :: 41 :: 40 :: l) = true := by kernel_rfl
theorem evFnFar_c133 (B : Blk) : allR (ok_FnFar B) 6 0 6 (fun l => 40 :: 40 :: 40 :: 41 :: 41 :: 40 :: 40 :: 41 :: 40 :: 41 :: 41 :: 41 :: l) = true := by kernel_rfl
theorem evFnFar_c136 (B : Blk) : allR (ok_FnFar B) 6 4 8 (fun l => 40 :: 40 :: 40 :: 41 :: 41 :: 40 :: 40 :: 41 :: 40 :: 41 :: 40 :: 40 :: l) = true := by kernel_rfl
theorem evFnFar_c140 (B : Blk) : allR (ok_FnFar B) 6 0 6 (fun l => 40 :: 40 :: 40 :: 41 :: 41 :: 40 :: 40 :: 40 :: 41 :: 41 :: 41 :: 41 :: l) = true := by kernel_rfl
theorem evFnFar_c143 (B : Blk) : allR (ok_FnFar B) 6 4 8 (fun l => 40 :: 40 :: 40 :: 41 :: 41 :: 40 :: 40 :: 40 :: 41 :: 41 :: 40 :: 40 :: l) = true := by kernel_rfl
theorem evFnFar_c149 (B : Blk) : allR (ok_FnFar B) 7 5 8 (fun l => 40 :: 40 :: 40 :: 41 :: 41 :: 40 :: 40 :: 40 :: 40 :: 41 :: 40 :: l) = true := by kernel_rfl
theorem evFnFar_c161 (B : Blk) : allR (ok_FnFar B) 6 2 7 (fun l => 40 :: 40 :: 40 :: 41 :: 40 :: 41 :: 41 :: 40 :: 40 :: 40 :: 41 :: 41 :: l) = true := by kernel_rfl
theorem evFnFar_c173 (B : Blk) : allR (ok_FnFar B) 6 2 7 (fun l => 40 :: 40 :: 40 :: 41 :: 40 :: 41 :: 40 :: 41 :: 40 :: 40 :: 41 :: 41 :: l) = true := by kernel_rfl
theorem evFnFar_c183 (B : Blk) : allR (ok_FnFar B) 6 2 7 (fun l => 40 :: 40 :: 40 :: 41 :: 40 :: 41 :: 40 :: 40 :: 40 :: 41 :: 41 :: 41 :: l) = true := by kernel_rfl
theorem evFnFar_c195 (B : Blk) : allR (ok_FnFar B) 6 4 8 (fun l => 40 :: 40 :: 40 :: 41 :: 40 :: 40 :: 41 :: 41 :: 40 :: 41 :: 40 :: 40 :: l) = true := by kernel_rfl
theorem evFnFar_c199 (B : Blk) : allR (ok_FnFar B) 6 0 6 (fun l => 40 :: 40 :: 40 :: 41 :: 40 :: 40 :: 41 :: 40 :: 41 :: 41 :: 41 :: 41 :: l) = true := by kernel_rfl
theorem evFnFar_c202 (B : Blk) : allR (ok_FnFar B) 6 4 8 (fun l => 40 :: 40 :: 40 :: 41 :: 40 :: 40 :: 41 :: 40 :: 41 :: 41 :: 40 :: 40 :: l) = true := by kernel_rfl
theorem evFnFar_c208 (B : Blk) : allR (ok_FnFar B) 7 5 8 (fun l => 40 :: 40 :: 40 :: 41 :: 40 :: 40 :: 41 :: 40 :: 40 :: 41 :: 40 :: l) = true := by kernel_rfl
theorem evFnFar_c217 (B : Blk) : allR (ok_FnFar B) 6 2 7 (fun l => 40 :: 40 :: 40 :: 41 :: 40 :: 40 :: 40 :: 41 :: 40 :: 41 :: 41 :: 41 :: l) = true := by kernel_rfl
theorem evFnFar_c226 (B : Blk) : allR (ok_FnFar B) 10 0 4 (fun l => 40 :: 40 :: 40 :: 40 :: 41 :: 41 :: 41 :: 41 :: l) = true := by kernel_rfl
theorem evFnFar_c228 (B : Blk) : allR (ok_FnFar B) 6 0 6 (fun l => 40 :: 40 :: 40 :: 40 :: 41 :: 41 :: 41 :: 40 :: 41 :: 40 :: 41 :: 41 :: l) = true := by kernel_rfl
theorem evFnFar_c232 (B : Blk) : allR (ok_FnFar B) 6 0 6 (fun l => 40 :: 40 :: 40 :: 40 :: 41 :: 41 :: 41 :: 40 :: 40 :: 41 :: 41 :: 41 :: l) = true := by kernel_rfl
theorem evFnFar_c233 (B : Blk) : allR (ok_FnFar B) 6 2 7 (fun l => 40 :: 40 :: 40 :: 40 :: 41 :: 41 :: 41 :: 40 :: 40 :: 41 :: 41 :: 40 :: l) = true := by kernel_rfl
theorem evFnFar_c244 (B : Blk) : allR (ok_FnFar B) 6 0 6 (fun l => 40 :: 40 :: 40 :: 40 :: 41 :: 41 :: 40 :: 41 :: 40 :: 41 :: 41 :: 41 :: l) = true := by kernel_rfl
theorem evFnFar_c247 (B : Blk) : allR (ok_FnFar B) 6 4 8 (fun l => 40 :: 40 :: 40 :: 40 :: 41 :: 41 :: 40 :: 41 :: 40 :: 41 :: 40 :: 40 :: l) = true := by kernel_rfl
theorem evFnFar_c251 (B : Blk) : allR (ok_FnFar B) 6 0 6 (fun l => 40 :: 40 :: 40 :: 40 :: 41 :: 41 :: 40 :: 40 :: 41 :: 41 :: 41 :: 41 :: l) = true := by kernel_rfl
theorem evFnFar_c254 (B : Blk) : allR (ok_FnFar B) 6 4 8 (fun l => 40 :: 40 :: 40 :: 40 :: 41 :: 41 :: 40 :: 40 :: 41 :: 41 :: 40 :: 40 :: l) = true := by kernel_rfl
theorem evFnFar_c260 (B : Blk) : allR (ok_FnFar B) 7 5 8 (fun l => 40 :: 40 :: 40 :: 40 :: 41 :: 41 :: 40 :: 40 :: 40 :: 41 :: 40 :: l) = true := by kernel_rfl
theorem evFnFar_c271 (B : Blk) : allR (ok_FnFar B) 6 2 7 (fun l => 40 :: 40 :: 40 :: 40 :: 41 :: 40 :: 41 :: 41 :: 40 :: 40 :: 41 :: 41 :: l) = true := by kernel_rfl
theorem evFnFar_c281 (B : Blk) : allR (ok_FnFar B) 6 2 7 (fun l => 40 :: 40 :: 40 :: 40 :: 41 :: 40 :: 41 :: 40 :: 40 :: 41 :: 41 :: 41 :: l) = true := by kernel_rfl
theorem evFnFar_c291 (B : Blk) : allR (ok_FnFar B) 7 5 8 (fun l => 40 :: 40 :: 40 :: 40 :: 41 :: 40 :: 40 :: 41 :: 41 :: 40 :: 40 :: l) = true := by kernel_rfl
theorem evFnFar_c299 (B : Blk) : allR (ok_FnFar B) 8 6 8 (fun l => 40 :: 40 :: 40 :: 40 :: 41 :: 40 :: 40 :: 40 :: 41 :: 40 :: l) = true := by kernel_rfl
theorem evFnFar_c309 (B : Blk) : allR (ok_FnFar B) 6 4 8 (fun l => 40 :: 40 :: 40 :: 40 :: 40 :: 41 :: 41 :: 41 :: 40 :: 41 :: 40 :: 40 :: l) = true := by kernel_rfl
theorem evFnFar_c315 (B : Blk) : allR (ok_FnFar B) 6 2 7 (fun l => 40 :: 40 :: 40 :: 40 :: 40 :: 41 :: 41 :: 40 :: 41 :: 41 :: 40 :: 41 :: l) = true := by kernel_rfl
theorem evFnFar_c326 (B : Blk) : allR (ok_FnFar B) 6 2 7 (fun l => 40 :: 40 :: 40 :: 40 :: 40 :: 41 :: 40 :: 41 :: 41 :: 41 :: 40 :: 41 :: l) = true := by kernel_rfl
theorem evFnFar_c336 (B : Blk) : allR (ok_FnFar B) 6 4 8 (fun l => 40 :: 40 :: 40 :: 40 :: 40 :: 41 :: 40 :: 40 :: 41 :: 41 :: 41 :: 40 :: l) = true := by kernel_rfl
theorem evFnFar_c343 (B : Blk) : allR (ok_FnFar B) 6 4 8 (fun l => 40 :: 40 :: 40 :: 40 :: 40 :: 40 :: 41 :: 41 :: 41 :: 41 :: 40 :: 40 :: l) = true := by kernel_rfl
theorem evFnFar_c348 (B : Blk) : allR (ok_FnFar B) 6 4 8 (fun l => 40 :: 40 :: 40 :: 40 :: 40 :: 40 :: 41 :: 41 :: 40 :: 41 :: 41 :: 40 :: l) = true := by kernel_rfl
theorem evFnFar_c355 (B : Blk) : allR (ok_FnFar B) 9 7 8 (fun l => 40 :: 40 :: 40 :: 40 :: 40 :: 40 :: 41 :: 40 :: 40 :: l) = true := by kernel_rfl
end
end Go.AI.T
