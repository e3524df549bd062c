/- The evaluation, part 1. -/
import Derived.Test.YtfafaadfnhhfhaaFnLevelsPlaceBad
import Derived.KernelRfl
namespace Go.AI.T
open Go Go.RowKit Go.AI
set_option linter.unusedVariables false
set_option linter.unusedSimpArgs false
set_option maxRecDepth 100000
noncomputable section
theorem evFnLevelsPlace_c1 (B : Blk) : allR (ok_FnLevelsPlace B) 14 0 2 (fun l => 40 :: 40 :: 41 :: 41 :: l) = true := by kernel_rfl
theorem evFnLevelsPlace_c5 (B : Blk) : allR (ok_FnLevelsPlace B) 7 1 6 (fun l => 40 :: 40 :: 41 :: 40 :: 41 :: 40 :: 41 :: 40 :: 41 :: 40 :: 41 :: l) = true := by kernel_rfl
theorem evFnLevelsPlace_c9 (B : Blk) : allR (ok_FnLevelsPlace B) 8 4 7 (fun l => 40 :: 40 :: 41 :: 40 :: 41 :: 40 :: 41 :: 40 :: 40 :: 40 :: l) = true := by kernel_rfl
theorem evFnLevelsPlace_c17 (B : Blk) : allR (ok_FnLevelsPlace B) 7 3 7 (fun l => 40 :: 40 :: 41 :: 40 :: 41 :: 40 :: 40 :: 40 :: 41 :: 41 :: 40 :: l) = true := by kernel_rfl
theorem evFnLevelsPlace_c20 (B : Blk) : allR (ok_FnLevelsPlace B) 8 6 8 (fun l => 40 :: 40 :: 41 :: 40 :: 41 :: 40 :: 40 :: 40 :: 40 :: 40 :: l) = true := by kernel_rfl
theorem evFnLevelsPlace_c24 (B : Blk) : allR (ok_FnLevelsPlace B) 7 3 7 (fun l => 40 :: 40 :: 41 :: 40 :: 40 :: 41 :: 41 :: 40 :: 41 :: 40 :: 40 :: l) = true := by kernel_rfl
theorem evFnLevelsPlace_c29 (B : Blk) : allR (ok_FnLevelsPlace B) 7 1 6 (fun l => 40 :: 40 :: 41 :: 40 :: 40 :: 41 :: 40 :: 41 :: 41 :: 40 :: 41 :: l) = true := by kernel_rfl
theorem evFnLevelsPlace_c32 (B : Blk) : allR (ok_FnLevelsPlace B) 7 3 7 (fun l => 40 :: 40 :: 41 :: 40 :: 40 :: 41 :: 40 :: 41 :: 40 :: 41 :: 40 :: l) = true := by kernel_rfl
theorem evFnLevelsPlace_c36 (B : Blk) : allR (ok_FnLevelsPlace B) 8 4 7 (fun l => 40 :: 40 :: 41 :: 40 :: 40 :: 41 :: 40 :: 40 :: 41 :: 40 :: l) = true := by kernel_rfl
theorem evFnLevelsPlace_c42 (B : Blk) : allR (ok_FnLevelsPlace B) 7 1 6 (fun l => 40 :: 40 :: 41 :: 40 :: 40 :: 40 :: 41 :: 41 :: 40 :: 41 :: 41 :: l) = true := by kernel_rfl
theorem evFnLevelsPlace_c46 (B : Blk) : allR (ok_FnLevelsPlace B) 7 3 7 (fun l => 40 :: 40 :: 41 :: 40 :: 40 :: 40 :: 41 :: 40 :: 41 :: 41 :: 40 :: l) = true := by kernel_rfl
theorem evFnLevelsPlace_c50 (B : Blk) : allR (ok_FnLevelsPlace B) 7 1 6 (fun l => 40 :: 40 :: 41 :: 40 :: 40 :: 40 :: 40 :: 41 :: 41 :: 41 :: 41 :: l) = true := by kernel_rfl
theorem evFnLevelsPlace_c52 (B : Blk) : allR (ok_FnLevelsPlace B) 8 4 7 (fun l => 40 :: 40 :: 41 :: 40 :: 40 :: 40 :: 40 :: 41 :: 41 :: 40 :: l) = true := by kernel_rfl
theorem evFnLevelsPlace_c58 (B : Blk) : allR (ok_FnLevelsPlace B) 12 0 3 (fun l => 40 :: 40 :: 40 :: 41 :: 41 :: 41 :: l) = true := by kernel_rfl
theorem evFnLevelsPlace_c59 (B : Blk) : allR (ok_FnLevelsPlace B) 10 0 4 (fun l => 40 :: 40 :: 40 :: 41 :: 41 :: 40 :: 41 :: 41 :: l) = true := by kernel_rfl
theorem evFnLevelsPlace_c61 (B : Blk) : allR (ok_FnLevelsPlace B) 7 1 6 (fun l => 40 :: 40 :: 40 :: 41 :: 41 :: 40 :: 41 :: 40 :: 41 :: 40 :: 41 :: l) = true := by kernel_rfl
theorem evFnLevelsPlace_c65 (B : Blk) : allR (ok_FnLevelsPlace B) 8 4 7 (fun l => 40 :: 40 :: 40 :: 41 :: 41 :: 40 :: 41 :: 40 :: 40 :: 40 :: l) = true := by kernel_rfl
theorem evFnLevelsPlace_c72 (B : Blk) : allR (ok_FnLevelsPlace B) 7 1 6 (fun l => 40 :: 40 :: 40 :: 41 :: 41 :: 40 :: 40 :: 40 :: 41 :: 41 :: 41 :: l) = true := by kernel_rfl
theorem evFnLevelsPlace_c75 (B : Blk) : allR (ok_FnLevelsPlace B) 8 4 7 (fun l => 40 :: 40 :: 40 :: 41 :: 41 :: 40 :: 40 :: 40 :: 40 :: 41 :: l) = true := by kernel_rfl
theorem evFnLevelsPlace_c82 (B : Blk) : allR (ok_FnLevelsPlace B) 7 3 7 (fun l => 40 :: 40 :: 40 :: 41 :: 40 :: 41 :: 41 :: 40 :: 40 :: 41 :: 40 :: l) = true := by kernel_rfl
theorem evFnLevelsPlace_c87 (B : Blk) : allR (ok_FnLevelsPlace B) 7 1 6 (fun l => 40 :: 40 :: 40 :: 41 :: 40 :: 41 :: 40 :: 41 :: 40 :: 41 :: 41 :: l) = true := by kernel_rfl
theorem evFnLevelsPlace_c91 (B : Blk) : allR (ok_FnLevelsPlace B) 7 3 7 (fun l => 40 :: 40 :: 40 :: 41 :: 40 :: 41 :: 40 :: 40 :: 41 :: 41 :: 40 :: l) = true := by kernel_rfl
theorem evFnLevelsPlace_c94 (B : Blk) : allR (ok_FnLevelsPlace B) 8 6 8 (fun l => 40 :: 40 :: 40 :: 41 :: 40 :: 41 :: 40 :: 40 :: 40 :: 40 :: l) = true := by kernel_rfl
theorem evFnLevelsPlace_c97 (B : Blk) : allR (ok_FnLevelsPlace B) 7 3 7 (fun l => 40 :: 40 :: 40 :: 41 :: 40 :: 40 :: 41 :: 41 :: 41 :: 40 :: 40 :: l) = true := by kernel_rfl
theorem evFnLevelsPlace_c101 (B : Blk) : allR (ok_FnLevelsPlace B) 7 1 6 (fun l => 40 :: 40 :: 40 :: 41 :: 40 :: 40 :: 41 :: 40 :: 41 :: 41 :: 41 :: l) = true := by kernel_rfl
theorem evFnLevelsPlace_c104 (B : Blk) : allR (ok_FnLevelsPlace B) 8 4 7 (fun l => 40 :: 40 :: 40 :: 41 :: 40 :: 40 :: 41 :: 40 :: 40 :: 41 :: l) = true := by kernel_rfl
theorem evFnLevelsPlace_c110 (B : Blk) : allR (ok_FnLevelsPlace B) 8 6 8 (fun l => 40 :: 40 :: 40 :: 41 :: 40 :: 40 :: 40 :: 41 :: 40 :: 40 :: l) = true := by kernel_rfl
theorem evFnLevelsPlace_c112 (B : Blk) : allR (ok_FnLevelsPlace B) 8 6 8 (fun l => 40 :: 40 :: 40 :: 41 :: 40 :: 40 :: 40 :: 40 :: 41 :: 40 :: l) = true := by kernel_rfl
theorem evFnLevelsPlace_c113 (B : Blk) : allR (ok_FnLevelsPlace B) 9 7 8 (fun l => 40 :: 40 :: 40 :: 41 :: 40 :: 40 :: 40 :: 40 :: 40 :: l) = true := by kernel_rfl
theorem evFnLevelsPlace_c118 (B : Blk) : allR (ok_FnLevelsPlace B) 7 1 6 (fun l => 40 :: 40 :: 40 :: 40 :: 41 :: 41 :: 41 :: 40 :: 40 :: 41 :: 41 :: l) = true := by kernel_rfl
theorem evFnLevelsPlace_c123 (B : Blk) : allR (ok_FnLevelsPlace B) 7 3 7 (fun l => 40 :: 40 :: 40 :: 40 :: 41 :: 41 :: 40 :: 41 :: 41 :: 40 :: 40 :: l) = true := by kernel_rfl
theorem evFnLevelsPlace_c126 (B : Blk) : allR (ok_FnLevelsPlace B) 8 4 7 (fun l => 40 :: 40 :: 40 :: 40 :: 41 :: 41 :: 40 :: 41 :: 40 :: 40 :: l) = true := by kernel_rfl
theorem evFnLevelsPlace_c132 (B : Blk) : allR (ok_FnLevelsPlace B) 8 0 5 (fun l => 40 :: 40 :: 40 :: 40 :: 41 :: 40 :: 41 :: 41 :: 41 :: 41 :: l) = true := by kernel_rfl
theorem evFnLevelsPlace_c133 (B : Blk) : allR (ok_FnLevelsPlace B) 7 1 6 (fun l => 40 :: 40 :: 40 :: 40 :: 41 :: 40 :: 41 :: 41 :: 41 :: 40 :: 41 :: l) = true := by kernel_rfl
theorem evFnLevelsPlace_c137 (B : Blk) : allR (ok_FnLevelsPlace B) 8 4 7 (fun l => 40 :: 40 :: 40 :: 40 :: 41 :: 40 :: 41 :: 41 :: 40 :: 40 :: l) = true := by kernel_rfl
theorem evFnLevelsPlace_c142 (B : Blk) : allR (ok_FnLevelsPlace B) 8 6 8 (fun l => 40 :: 40 :: 40 :: 40 :: 41 :: 40 :: 41 :: 40 :: 40 :: 40 :: l) = true := by kernel_rfl
theorem evFnLevelsPlace_c144 (B : Blk) : allR (ok_FnLevelsPlace B) 7 3 7 (fun l => 40 :: 40 :: 40 :: 40 :: 41 :: 40 :: 40 :: 41 :: 41 :: 41 :: 40 :: l) = true := by kernel_rfl
theorem evFnLevelsPlace_c148 (B : Blk) : allR (ok_FnLevelsPlace B) 8 4 7 (fun l => 40 :: 40 :: 40 :: 40 :: 41 :: 40 :: 40 :: 40 :: 41 :: 41 :: l) = true := by kernel_rfl
theorem evFnLevelsPlace_c155 (B : Blk) : allR (ok_FnLevelsPlace B) 7 3 7 (fun l => 40 :: 40 :: 40 :: 40 :: 40 :: 41 :: 41 :: 41 :: 40 :: 41 :: 40 :: l) = true := by kernel_rfl
theorem evFnLevelsPlace_c159 (B : Blk) : allR (ok_FnLevelsPlace B) 8 4 7 (fun l => 40 :: 40 :: 40 :: 40 :: 40 :: 41 :: 41 :: 40 :: 41 :: 40 :: l) = true := by kernel_rfl
theorem evFnLevelsPlace_c165 (B : Blk) : allR (ok_FnLevelsPlace B) 8 4 7 (fun l => 40 :: 40 :: 40 :: 40 :: 40 :: 41 :: 40 :: 41 :: 40 :: 41 :: l) = true := by kernel_rfl
theorem evFnLevelsPlace_c171 (B : Blk) : allR (ok_FnLevelsPlace B) 7 3 7 (fun l => 40 :: 40 :: 40 :: 40 :: 40 :: 40 :: 41 :: 41 :: 41 :: 41 :: 40 :: l) = true := by kernel_rfl
theorem evFnLevelsPlace_c175 (B : Blk) : allR (ok_FnLevelsPlace B) 8 4 7 (fun l => 40 :: 40 :: 40 :: 40 :: 40 :: 40 :: 41 :: 40 :: 41 :: 41 :: l) = true := by kernel_rfl
end
end Go.AI.T
