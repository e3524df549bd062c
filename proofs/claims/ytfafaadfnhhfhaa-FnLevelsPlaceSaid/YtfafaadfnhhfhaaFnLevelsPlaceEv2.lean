/- The evaluation, part 2. -/
import Derived.Test.YtfafaadfnhhfhaaFnLevelsPlaceBad
import Derived.KernelRfl
namespace Go.AI.T
open Go Go.RowKit Go.AI
set_option linter.unusedVariables false
set_option linter.unusedSimpArgs false
set_option maxRecDepth 100000
noncomputable section
theorem evFnLevelsPlace_c2 (B : Blk) : allR (ok_FnLevelsPlace B) 12 0 3 (fun l => 40 :: 40 :: 41 :: 40 :: 41 :: 41 :: l) = true := by kernel_rfl
theorem evFnLevelsPlace_c6 (B : Blk) : allR (ok_FnLevelsPlace B) 7 3 7 (fun l => 40 :: 40 :: 41 :: 40 :: 41 :: 40 :: 41 :: 40 :: 41 :: 40 :: 40 :: l) = true := by kernel_rfl
theorem evFnLevelsPlace_c12 (B : Blk) : allR (ok_FnLevelsPlace B) 7 3 7 (fun l => 40 :: 40 :: 41 :: 40 :: 41 :: 40 :: 40 :: 41 :: 41 :: 40 :: 40 :: l) = true := by kernel_rfl
theorem evFnLevelsPlace_c16 (B : Blk) : allR (ok_FnLevelsPlace B) 7 1 6 (fun l => 40 :: 40 :: 41 :: 40 :: 41 :: 40 :: 40 :: 40 :: 41 :: 41 :: 41 :: l) = true := by kernel_rfl
theorem evFnLevelsPlace_c19 (B : Blk) : allR (ok_FnLevelsPlace B) 8 4 7 (fun l => 40 :: 40 :: 41 :: 40 :: 41 :: 40 :: 40 :: 40 :: 40 :: 41 :: l) = true := by kernel_rfl
theorem evFnLevelsPlace_c27 (B : Blk) : allR (ok_FnLevelsPlace B) 8 4 7 (fun l => 40 :: 40 :: 41 :: 40 :: 40 :: 41 :: 41 :: 40 :: 40 :: 40 :: l) = true := by kernel_rfl
theorem evFnLevelsPlace_c33 (B : Blk) : allR (ok_FnLevelsPlace B) 8 4 7 (fun l => 40 :: 40 :: 41 :: 40 :: 40 :: 41 :: 40 :: 41 :: 40 :: 40 :: l) = true := by kernel_rfl
theorem evFnLevelsPlace_c39 (B : Blk) : allR (ok_FnLevelsPlace B) 8 0 5 (fun l => 40 :: 40 :: 41 :: 40 :: 40 :: 40 :: 41 :: 41 :: 41 :: 41 :: l) = true := by kernel_rfl
theorem evFnLevelsPlace_c40 (B : Blk) : allR (ok_FnLevelsPlace B) 7 1 6 (fun l => 40 :: 40 :: 41 :: 40 :: 40 :: 40 :: 41 :: 41 :: 41 :: 40 :: 41 :: l) = true := by kernel_rfl
theorem evFnLevelsPlace_c43 (B : Blk) : allR (ok_FnLevelsPlace B) 7 3 7 (fun l => 40 :: 40 :: 41 :: 40 :: 40 :: 40 :: 41 :: 41 :: 40 :: 41 :: 40 :: l) = true := by kernel_rfl
theorem evFnLevelsPlace_c47 (B : Blk) : allR (ok_FnLevelsPlace B) 8 4 7 (fun l => 40 :: 40 :: 41 :: 40 :: 40 :: 40 :: 41 :: 40 :: 41 :: 40 :: l) = true := by kernel_rfl
theorem evFnLevelsPlace_c53 (B : Blk) : allR (ok_FnLevelsPlace B) 8 4 7 (fun l => 40 :: 40 :: 41 :: 40 :: 40 :: 40 :: 40 :: 41 :: 40 :: 41 :: l) = true := by kernel_rfl
theorem evFnLevelsPlace_c60 (B : Blk) : allR (ok_FnLevelsPlace B) 8 0 5 (fun l => 40 :: 40 :: 40 :: 41 :: 41 :: 40 :: 41 :: 40 :: 41 :: 41 :: l) = true := by kernel_rfl
theorem evFnLevelsPlace_c62 (B : Blk) : allR (ok_FnLevelsPlace B) 7 3 7 (fun l => 40 :: 40 :: 40 :: 41 :: 41 :: 40 :: 41 :: 40 :: 41 :: 40 :: 40 :: l) = true := by kernel_rfl
theorem evFnLevelsPlace_c67 (B : Blk) : allR (ok_FnLevelsPlace B) 7 1 6 (fun l => 40 :: 40 :: 40 :: 41 :: 41 :: 40 :: 40 :: 41 :: 41 :: 40 :: 41 :: l) = true := by kernel_rfl
theorem evFnLevelsPlace_c70 (B : Blk) : allR (ok_FnLevelsPlace B) 7 3 7 (fun l => 40 :: 40 :: 40 :: 41 :: 41 :: 40 :: 40 :: 41 :: 40 :: 41 :: 40 :: l) = true := by kernel_rfl
theorem evFnLevelsPlace_c74 (B : Blk) : allR (ok_FnLevelsPlace B) 8 4 7 (fun l => 40 :: 40 :: 40 :: 41 :: 41 :: 40 :: 40 :: 40 :: 41 :: 40 :: l) = true := by kernel_rfl
theorem evFnLevelsPlace_c81 (B : Blk) : allR (ok_FnLevelsPlace B) 7 1 6 (fun l => 40 :: 40 :: 40 :: 41 :: 40 :: 41 :: 41 :: 40 :: 40 :: 41 :: 41 :: l) = true := by kernel_rfl
theorem evFnLevelsPlace_c86 (B : Blk) : allR (ok_FnLevelsPlace B) 7 3 7 (fun l => 40 :: 40 :: 40 :: 41 :: 40 :: 41 :: 40 :: 41 :: 41 :: 40 :: 40 :: l) = true := by kernel_rfl
theorem evFnLevelsPlace_c90 (B : Blk) : allR (ok_FnLevelsPlace B) 7 1 6 (fun l => 40 :: 40 :: 40 :: 41 :: 40 :: 41 :: 40 :: 40 :: 41 :: 41 :: 41 :: l) = true := by kernel_rfl
theorem evFnLevelsPlace_c93 (B : Blk) : allR (ok_FnLevelsPlace B) 8 4 7 (fun l => 40 :: 40 :: 40 :: 41 :: 40 :: 41 :: 40 :: 40 :: 40 :: 41 :: l) = true := by kernel_rfl
theorem evFnLevelsPlace_c99 (B : Blk) : allR (ok_FnLevelsPlace B) 7 3 7 (fun l => 40 :: 40 :: 40 :: 41 :: 40 :: 40 :: 41 :: 41 :: 40 :: 41 :: 40 :: l) = true := by kernel_rfl
theorem evFnLevelsPlace_c103 (B : Blk) : allR (ok_FnLevelsPlace B) 8 4 7 (fun l => 40 :: 40 :: 40 :: 41 :: 40 :: 40 :: 41 :: 40 :: 41 :: 40 :: l) = true := by kernel_rfl
theorem evFnLevelsPlace_c109 (B : Blk) : allR (ok_FnLevelsPlace B) 8 4 7 (fun l => 40 :: 40 :: 40 :: 41 :: 40 :: 40 :: 40 :: 41 :: 40 :: 41 :: l) = true := by kernel_rfl
theorem evFnLevelsPlace_c116 (B : Blk) : allR (ok_FnLevelsPlace B) 7 1 6 (fun l => 40 :: 40 :: 40 :: 40 :: 41 :: 41 :: 41 :: 40 :: 41 :: 40 :: 41 :: l) = true := by kernel_rfl
theorem evFnLevelsPlace_c120 (B : Blk) : allR (ok_FnLevelsPlace B) 8 4 7 (fun l => 40 :: 40 :: 40 :: 40 :: 41 :: 41 :: 41 :: 40 :: 40 :: 40 :: l) = true := by kernel_rfl
theorem evFnLevelsPlace_c127 (B : Blk) : allR (ok_FnLevelsPlace B) 7 1 6 (fun l => 40 :: 40 :: 40 :: 40 :: 41 :: 41 :: 40 :: 40 :: 41 :: 41 :: 41 :: l) = true := by kernel_rfl
theorem evFnLevelsPlace_c130 (B : Blk) : allR (ok_FnLevelsPlace B) 8 4 7 (fun l => 40 :: 40 :: 40 :: 40 :: 41 :: 41 :: 40 :: 40 :: 40 :: 41 :: l) = true := by kernel_rfl
theorem evFnLevelsPlace_c136 (B : Blk) : allR (ok_FnLevelsPlace B) 7 3 7 (fun l => 40 :: 40 :: 40 :: 40 :: 41 :: 40 :: 41 :: 41 :: 40 :: 41 :: 40 :: l) = true := by kernel_rfl
theorem evFnLevelsPlace_c140 (B : Blk) : allR (ok_FnLevelsPlace B) 8 4 7 (fun l => 40 :: 40 :: 40 :: 40 :: 41 :: 40 :: 41 :: 40 :: 41 :: 40 :: l) = true := by kernel_rfl
theorem evFnLevelsPlace_c146 (B : Blk) : allR (ok_FnLevelsPlace B) 8 4 7 (fun l => 40 :: 40 :: 40 :: 40 :: 41 :: 40 :: 40 :: 41 :: 40 :: 41 :: l) = true := by kernel_rfl
theorem evFnLevelsPlace_c153 (B : Blk) : allR (ok_FnLevelsPlace B) 7 3 7 (fun l => 40 :: 40 :: 40 :: 40 :: 40 :: 41 :: 41 :: 41 :: 41 :: 40 :: 40 :: l) = true := by kernel_rfl
theorem evFnLevelsPlace_c157 (B : Blk) : allR (ok_FnLevelsPlace B) 7 1 6 (fun l => 40 :: 40 :: 40 :: 40 :: 40 :: 41 :: 41 :: 40 :: 41 :: 41 :: 41 :: l) = true := by kernel_rfl
theorem evFnLevelsPlace_c160 (B : Blk) : allR (ok_FnLevelsPlace B) 8 4 7 (fun l => 40 :: 40 :: 40 :: 40 :: 40 :: 41 :: 41 :: 40 :: 40 :: 41 :: l) = true := by kernel_rfl
theorem evFnLevelsPlace_c166 (B : Blk) : allR (ok_FnLevelsPlace B) 8 6 8 (fun l => 40 :: 40 :: 40 :: 40 :: 40 :: 41 :: 40 :: 41 :: 40 :: 40 :: l) = true := by kernel_rfl
theorem evFnLevelsPlace_c168 (B : Blk) : allR (ok_FnLevelsPlace B) 8 6 8 (fun l => 40 :: 40 :: 40 :: 40 :: 40 :: 41 :: 40 :: 40 :: 41 :: 40 :: l) = true := by kernel_rfl
theorem evFnLevelsPlace_c169 (B : Blk) : allR (ok_FnLevelsPlace B) 9 7 8 (fun l => 40 :: 40 :: 40 :: 40 :: 40 :: 41 :: 40 :: 40 :: 40 :: l) = true := by kernel_rfl
theorem evFnLevelsPlace_c172 (B : Blk) : allR (ok_FnLevelsPlace B) 8 4 7 (fun l => 40 :: 40 :: 40 :: 40 :: 40 :: 40 :: 41 :: 41 :: 41 :: 40 :: l) = true := by kernel_rfl
theorem evFnLevelsPlace_c178 (B : Blk) : allR (ok_FnLevelsPlace B) 8 4 7 (fun l => 40 :: 40 :: 40 :: 40 :: 40 :: 40 :: 40 :: 41 :: 41 :: 41 :: l) = true := by kernel_rfl
end
end Go.AI.T
