/- The evaluation, part 3. -/
import Derived.Test.YtojcncloeikjlaaFnStreamCountsBad
import Derived.KernelRfl
namespace Go.AI.T
open Go Go.RowKit Go.AI
set_option linter.unusedVariables false
set_option linter.unusedSimpArgs false
set_option maxRecDepth 100000
noncomputable section
theorem evFnStreamCounts_c3 (B : Blk) : allR (ok_FnStreamCounts B) 10 0 4 (fun l => 40 :: 40 :: 41 :: 40 :: 41 :: 40 :: 41 :: 41 :: l) = true := by kernel_rfl
theorem evFnStreamCounts_c11 (B : Blk) : allR (ok_FnStreamCounts B) 6 2 7 (fun l => 40 :: 40 :: 41 :: 40 :: 41 :: 40 :: 41 :: 40 :: 40 :: 41 :: 40 :: 41 :: l) = true := by kernel_rfl
theorem evFnStreamCounts_c23 (B : Blk) : allR (ok_FnStreamCounts B) 6 2 7 (fun l => 40 :: 40 :: 41 :: 40 :: 41 :: 40 :: 40 :: 41 :: 40 :: 41 :: 40 :: 41 :: l) = true := by kernel_rfl
theorem evFnStreamCounts_c34 (B : Blk) : allR (ok_FnStreamCounts B) 7 5 8 (fun l => 40 :: 40 :: 41 :: 40 :: 41 :: 40 :: 40 :: 40 :: 41 :: 40 :: 40 :: l) = true := by kernel_rfl
theorem evFnStreamCounts_c39 (B : Blk) : allR (ok_FnStreamCounts B) 10 0 4 (fun l => 40 :: 40 :: 41 :: 40 :: 40 :: 41 :: 41 :: 41 :: l) = true := by kernel_rfl
theorem evFnStreamCounts_c42 (B : Blk) : allR (ok_FnStreamCounts B) 6 2 7 (fun l => 40 :: 40 :: 41 :: 40 :: 40 :: 41 :: 41 :: 40 :: 41 :: 40 :: 41 :: 40 :: l) = true := by kernel_rfl
theorem evFnStreamCounts_c54 (B : Blk) : allR (ok_FnStreamCounts B) 6 2 7 (fun l => 40 :: 40 :: 41 :: 40 :: 40 :: 41 :: 40 :: 41 :: 41 :: 40 :: 41 :: 40 :: l) = true := by kernel_rfl
theorem evFnStreamCounts_c66 (B : Blk) : allR (ok_FnStreamCounts B) 6 2 7 (fun l => 40 :: 40 :: 41 :: 40 :: 40 :: 41 :: 40 :: 40 :: 41 :: 41 :: 40 :: 41 :: l) = true := by kernel_rfl
theorem evFnStreamCounts_c77 (B : Blk) : allR (ok_FnStreamCounts B) 6 2 7 (fun l => 40 :: 40 :: 41 :: 40 :: 40 :: 40 :: 41 :: 41 :: 41 :: 40 :: 41 :: 40 :: l) = true := by kernel_rfl
theorem evFnStreamCounts_c88 (B : Blk) : allR (ok_FnStreamCounts B) 6 2 7 (fun l => 40 :: 40 :: 41 :: 40 :: 40 :: 40 :: 41 :: 40 :: 41 :: 41 :: 41 :: 40 :: l) = true := by kernel_rfl
theorem evFnStreamCounts_c98 (B : Blk) : allR (ok_FnStreamCounts B) 6 0 6 (fun l => 40 :: 40 :: 41 :: 40 :: 40 :: 40 :: 40 :: 41 :: 41 :: 41 :: 41 :: 41 :: l) = true := by kernel_rfl
theorem evFnStreamCounts_c103 (B : Blk) : allR (ok_FnStreamCounts B) 6 4 8 (fun l => 40 :: 40 :: 41 :: 40 :: 40 :: 40 :: 40 :: 41 :: 41 :: 40 :: 41 :: 40 :: l) = true := by kernel_rfl
theorem evFnStreamCounts_c108 (B : Blk) : allR (ok_FnStreamCounts B) 8 6 8 (fun l => 40 :: 40 :: 41 :: 40 :: 40 :: 40 :: 40 :: 41 :: 40 :: 40 :: l) = true := by kernel_rfl
theorem evFnStreamCounts_c118 (B : Blk) : allR (ok_FnStreamCounts B) 6 2 7 (fun l => 40 :: 40 :: 40 :: 41 :: 41 :: 40 :: 41 :: 40 :: 41 :: 40 :: 41 :: 40 :: l) = true := by kernel_rfl
theorem evFnStreamCounts_c128 (B : Blk) : allR (ok_FnStreamCounts B) 8 0 5 (fun l => 40 :: 40 :: 40 :: 41 :: 41 :: 40 :: 40 :: 41 :: 41 :: 41 :: l) = true := by kernel_rfl
theorem evFnStreamCounts_c131 (B : Blk) : allR (ok_FnStreamCounts B) 6 2 7 (fun l => 40 :: 40 :: 40 :: 41 :: 41 :: 40 :: 40 :: 41 :: 41 :: 40 :: 40 :: 41 :: l) = true := by kernel_rfl
theorem evFnStreamCounts_c144 (B : Blk) : allR (ok_FnStreamCounts B) 6 2 7 (fun l => 40 :: 40 :: 40 :: 41 :: 41 :: 40 :: 40 :: 40 :: 41 :: 40 :: 41 :: 41 :: l) = true := by kernel_rfl
theorem evFnStreamCounts_c154 (B : Blk) : allR (ok_FnStreamCounts B) 6 2 7 (fun l => 40 :: 40 :: 40 :: 41 :: 40 :: 41 :: 41 :: 40 :: 41 :: 40 :: 41 :: 40 :: l) = true := by kernel_rfl
theorem evFnStreamCounts_c165 (B : Blk) : allR (ok_FnStreamCounts B) 6 0 6 (fun l => 40 :: 40 :: 40 :: 41 :: 40 :: 41 :: 40 :: 41 :: 41 :: 40 :: 41 :: 41 :: l) = true := by kernel_rfl
theorem evFnStreamCounts_c169 (B : Blk) : allR (ok_FnStreamCounts B) 6 0 6 (fun l => 40 :: 40 :: 40 :: 41 :: 40 :: 41 :: 40 :: 41 :: 40 :: 41 :: 41 :: 41 :: l) = true := by kernel_rfl
theorem evFnStreamCounts_c172 (B : Blk) : allR (ok_FnStreamCounts B) 6 4 8 (fun l => 40 :: 40 :: 40 :: 41 :: 40 :: 41 :: 40 :: 41 :: 40 :: 41 :: 40 :: 40 :: l) = true := by kernel_rfl
theorem evFnStreamCounts_c176 (B : Blk) : allR (ok_FnStreamCounts B) 6 0 6 (fun l => 40 :: 40 :: 40 :: 41 :: 40 :: 41 :: 40 :: 40 :: 41 :: 41 :: 41 :: 41 :: l) = true := by kernel_rfl
theorem evFnStreamCounts_c177 (B : Blk) : allR (ok_FnStreamCounts B) 6 2 7 (fun l => 40 :: 40 :: 40 :: 41 :: 40 :: 41 :: 40 :: 40 :: 41 :: 41 :: 41 :: 40 :: l) = true := by kernel_rfl
theorem evFnStreamCounts_c188 (B : Blk) : allR (ok_FnStreamCounts B) 6 0 6 (fun l => 40 :: 40 :: 40 :: 41 :: 40 :: 40 :: 41 :: 41 :: 41 :: 40 :: 41 :: 41 :: l) = true := by kernel_rfl
theorem evFnStreamCounts_c193 (B : Blk) : allR (ok_FnStreamCounts B) 6 2 7 (fun l => 40 :: 40 :: 40 :: 41 :: 40 :: 40 :: 41 :: 41 :: 40 :: 41 :: 41 :: 40 :: l) = true := by kernel_rfl
theorem evFnStreamCounts_c203 (B : Blk) : allR (ok_FnStreamCounts B) 6 2 7 (fun l => 40 :: 40 :: 40 :: 41 :: 40 :: 40 :: 41 :: 40 :: 41 :: 40 :: 41 :: 41 :: l) = true := by kernel_rfl
theorem evFnStreamCounts_c214 (B : Blk) : allR (ok_FnStreamCounts B) 6 2 7 (fun l => 40 :: 40 :: 40 :: 41 :: 40 :: 40 :: 40 :: 41 :: 41 :: 40 :: 41 :: 41 :: l) = true := by kernel_rfl
theorem evFnStreamCounts_c223 (B : Blk) : allR (ok_FnStreamCounts B) 7 5 8 (fun l => 40 :: 40 :: 40 :: 41 :: 40 :: 40 :: 40 :: 40 :: 41 :: 41 :: 40 :: l) = true := by kernel_rfl
theorem evFnStreamCounts_c234 (B : Blk) : allR (ok_FnStreamCounts B) 6 2 7 (fun l => 40 :: 40 :: 40 :: 40 :: 41 :: 41 :: 41 :: 40 :: 40 :: 41 :: 40 :: 41 :: l) = true := by kernel_rfl
theorem evFnStreamCounts_c245 (B : Blk) : allR (ok_FnStreamCounts B) 6 2 7 (fun l => 40 :: 40 :: 40 :: 40 :: 41 :: 41 :: 40 :: 41 :: 40 :: 41 :: 41 :: 40 :: l) = true := by kernel_rfl
theorem evFnStreamCounts_c256 (B : Blk) : allR (ok_FnStreamCounts B) 6 4 8 (fun l => 40 :: 40 :: 40 :: 40 :: 41 :: 41 :: 40 :: 40 :: 41 :: 40 :: 41 :: 40 :: l) = true := by kernel_rfl
theorem evFnStreamCounts_c261 (B : Blk) : allR (ok_FnStreamCounts B) 8 6 8 (fun l => 40 :: 40 :: 40 :: 40 :: 41 :: 41 :: 40 :: 40 :: 40 :: 40 :: l) = true := by kernel_rfl
theorem evFnStreamCounts_c272 (B : Blk) : allR (ok_FnStreamCounts B) 6 4 8 (fun l => 40 :: 40 :: 40 :: 40 :: 41 :: 40 :: 41 :: 41 :: 40 :: 40 :: 41 :: 40 :: l) = true := by kernel_rfl
theorem evFnStreamCounts_c280 (B : Blk) : allR (ok_FnStreamCounts B) 7 5 8 (fun l => 40 :: 40 :: 40 :: 40 :: 41 :: 40 :: 41 :: 40 :: 41 :: 40 :: 40 :: l) = true := by kernel_rfl
theorem evFnStreamCounts_c287 (B : Blk) : allR (ok_FnStreamCounts B) 6 2 7 (fun l => 40 :: 40 :: 40 :: 40 :: 41 :: 40 :: 40 :: 41 :: 41 :: 41 :: 40 :: 41 :: l) = true := by kernel_rfl
theorem evFnStreamCounts_c297 (B : Blk) : allR (ok_FnStreamCounts B) 6 4 8 (fun l => 40 :: 40 :: 40 :: 40 :: 41 :: 40 :: 40 :: 40 :: 41 :: 41 :: 41 :: 40 :: l) = true := by kernel_rfl
theorem evFnStreamCounts_c306 (B : Blk) : allR (ok_FnStreamCounts B) 6 0 6 (fun l => 40 :: 40 :: 40 :: 40 :: 40 :: 41 :: 41 :: 41 :: 40 :: 41 :: 41 :: 41 :: l) = true := by kernel_rfl
theorem evFnStreamCounts_c307 (B : Blk) : allR (ok_FnStreamCounts B) 6 2 7 (fun l => 40 :: 40 :: 40 :: 40 :: 40 :: 41 :: 41 :: 41 :: 40 :: 41 :: 41 :: 40 :: l) = true := by kernel_rfl
theorem evFnStreamCounts_c317 (B : Blk) : allR (ok_FnStreamCounts B) 6 2 7 (fun l => 40 :: 40 :: 40 :: 40 :: 40 :: 41 :: 41 :: 40 :: 41 :: 40 :: 41 :: 41 :: l) = true := by kernel_rfl
theorem evFnStreamCounts_c329 (B : Blk) : allR (ok_FnStreamCounts B) 6 4 8 (fun l => 40 :: 40 :: 40 :: 40 :: 40 :: 41 :: 40 :: 41 :: 41 :: 40 :: 41 :: 40 :: l) = true := by kernel_rfl
theorem evFnStreamCounts_c334 (B : Blk) : allR (ok_FnStreamCounts B) 8 6 8 (fun l => 40 :: 40 :: 40 :: 40 :: 40 :: 41 :: 40 :: 41 :: 40 :: 40 :: l) = true := by kernel_rfl
theorem evFnStreamCounts_c344 (B : Blk) : allR (ok_FnStreamCounts B) 6 2 7 (fun l => 40 :: 40 :: 40 :: 40 :: 40 :: 40 :: 41 :: 41 :: 41 :: 40 :: 41 :: 41 :: l) = true := by kernel_rfl
theorem evFnStreamCounts_c353 (B : Blk) : allR (ok_FnStreamCounts B) 7 5 8 (fun l => 40 :: 40 :: 40 :: 40 :: 40 :: 40 :: 41 :: 40 :: 41 :: 41 :: 40 :: l) = true := by kernel_rfl
theorem evFnStreamCounts_c360 (B : Blk) : allR (ok_FnStreamCounts B) 9 7 8 (fun l => 40 :: 40 :: 40 :: 40 :: 40 :: 40 :: 40 :: 41 :: 40 :: l) = true := by kernel_rfl
end
end Go.AI.T
