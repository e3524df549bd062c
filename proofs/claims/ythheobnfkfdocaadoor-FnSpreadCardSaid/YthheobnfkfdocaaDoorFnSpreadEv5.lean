/- The evaluation, part 5. -/
import Derived.Test.YthheobnfkfdocaaDoorFnSpreadBad
import Derived.KernelRfl
namespace Go.AI.T
open Go Go.RowKit Go.AI
set_option linter.unusedVariables false
set_option linter.unusedSimpArgs false
set_option maxRecDepth 100000
noncomputable section
theorem evFnSpread_c5 (B : Blk) : allR (ok_FnSpread B) 7 1 6 (fun l => 40 :: 40 :: 41 :: 40 :: 41 :: 40 :: 41 :: 40 :: 41 :: 40 :: 41 :: l) = true := by kernel_rfl
theorem evFnSpread_c14 (B : Blk) : allR (ok_FnSpread B) 7 3 7 (fun l => 40 :: 40 :: 41 :: 40 :: 41 :: 40 :: 40 :: 41 :: 40 :: 41 :: 40 :: l) = true := by kernel_rfl
theorem evFnSpread_c26 (B : Blk) : allR (ok_FnSpread B) 7 3 7 (fun l => 40 :: 40 :: 41 :: 40 :: 40 :: 41 :: 41 :: 40 :: 40 :: 41 :: 40 :: l) = true := by kernel_rfl
theorem evFnSpread_c35 (B : Blk) : allR (ok_FnSpread B) 7 3 7 (fun l => 40 :: 40 :: 41 :: 40 :: 40 :: 41 :: 40 :: 40 :: 41 :: 41 :: 40 :: l) = true := by kernel_rfl
theorem evFnSpread_c43 (B : Blk) : allR (ok_FnSpread B) 7 3 7 (fun l => 40 :: 40 :: 41 :: 40 :: 40 :: 40 :: 41 :: 41 :: 40 :: 41 :: 40 :: l) = true := by kernel_rfl
theorem evFnSpread_c52 (B : Blk) : allR (ok_FnSpread B) 8 4 7 (fun l => 40 :: 40 :: 41 :: 40 :: 40 :: 40 :: 40 :: 41 :: 41 :: 40 :: l) = true := by kernel_rfl
theorem evFnSpread_c66 (B : Blk) : allR (ok_FnSpread B) 8 0 5 (fun l => 40 :: 40 :: 40 :: 41 :: 41 :: 40 :: 40 :: 41 :: 41 :: 41 :: l) = true := by kernel_rfl
theorem evFnSpread_c67 (B : Blk) : allR (ok_FnSpread B) 7 1 6 (fun l => 40 :: 40 :: 40 :: 41 :: 41 :: 40 :: 40 :: 41 :: 41 :: 40 :: 41 :: l) = true := by kernel_rfl
theorem evFnSpread_c74 (B : Blk) : allR (ok_FnSpread B) 8 4 7 (fun l => 40 :: 40 :: 40 :: 41 :: 41 :: 40 :: 40 :: 40 :: 41 :: 40 :: l) = true := by kernel_rfl
theorem evFnSpread_c88 (B : Blk) : allR (ok_FnSpread B) 7 3 7 (fun l => 40 :: 40 :: 40 :: 41 :: 40 :: 41 :: 40 :: 41 :: 40 :: 41 :: 40 :: l) = true := by kernel_rfl
theorem evFnSpread_c98 (B : Blk) : allR (ok_FnSpread B) 7 1 6 (fun l => 40 :: 40 :: 40 :: 41 :: 40 :: 40 :: 41 :: 41 :: 40 :: 41 :: 41 :: l) = true := by kernel_rfl
theorem evFnSpread_c103 (B : Blk) : allR (ok_FnSpread B) 8 4 7 (fun l => 40 :: 40 :: 40 :: 41 :: 40 :: 40 :: 41 :: 40 :: 41 :: 40 :: l) = true := by kernel_rfl
theorem evFnSpread_c113 (B : Blk) : allR (ok_FnSpread B) 9 7 8 (fun l => 40 :: 40 :: 40 :: 41 :: 40 :: 40 :: 40 :: 40 :: 40 :: l) = true := by kernel_rfl
theorem evFnSpread_c120 (B : Blk) : allR (ok_FnSpread B) 8 4 7 (fun l => 40 :: 40 :: 40 :: 40 :: 41 :: 41 :: 41 :: 40 :: 40 :: 40 :: l) = true := by kernel_rfl
theorem evFnSpread_c135 (B : Blk) : allR (ok_FnSpread B) 7 1 6 (fun l => 40 :: 40 :: 40 :: 40 :: 41 :: 40 :: 41 :: 41 :: 40 :: 41 :: 41 :: l) = true := by kernel_rfl
theorem evFnSpread_c140 (B : Blk) : allR (ok_FnSpread B) 8 4 7 (fun l => 40 :: 40 :: 40 :: 40 :: 41 :: 40 :: 41 :: 40 :: 41 :: 40 :: l) = true := by kernel_rfl
theorem evFnSpread_c152 (B : Blk) : allR (ok_FnSpread B) 7 1 6 (fun l => 40 :: 40 :: 40 :: 40 :: 40 :: 41 :: 41 :: 41 :: 41 :: 40 :: 41 :: l) = true := by kernel_rfl
theorem evFnSpread_c158 (B : Blk) : allR (ok_FnSpread B) 7 3 7 (fun l => 40 :: 40 :: 40 :: 40 :: 40 :: 41 :: 41 :: 40 :: 41 :: 41 :: 40 :: l) = true := by kernel_rfl
theorem evFnSpread_c166 (B : Blk) : allR (ok_FnSpread B) 8 6 8 (fun l => 40 :: 40 :: 40 :: 40 :: 40 :: 41 :: 40 :: 41 :: 40 :: 40 :: l) = true := by kernel_rfl
theorem evFnSpread_c171 (B : Blk) : allR (ok_FnSpread B) 7 3 7 (fun l => 40 :: 40 :: 40 :: 40 :: 40 :: 40 :: 41 :: 41 :: 41 :: 41 :: 40 :: l) = true := by kernel_rfl
theorem evFnSpread_c180 (B : Blk) : allR (ok_FnSpread B) 9 7 8 (fun l => 40 :: 40 :: 40 :: 40 :: 40 :: 40 :: 40 :: 41 :: 40 :: l) = true := by kernel_rfl
end
end Go.AI.T
