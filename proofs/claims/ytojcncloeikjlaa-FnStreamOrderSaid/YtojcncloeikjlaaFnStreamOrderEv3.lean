/- The evaluation, part 3. -/
import Derived.Test.YtojcncloeikjlaaFnStreamOrderBad
import Derived.KernelRfl
namespace Go.AI.T
open Go Go.RowKit Go.AI
set_option linter.unusedVariables false
set_option linter.unusedSimpArgs false
set_option maxRecDepth 100000
noncomputable section
theorem evFnStreamOrder_c3 (B : Blk) : allR (ok_FnStreamOrder B) 10 0 4 (fun l => 40 :: 40 :: 41 :: 40 :: 41 :: 40 :: 41 :: 41 :: l) = true := by kernel_rfl
theorem evFnStreamOrder_c7 (B : Blk) : allR (ok_FnStreamOrder B) 9 1 5 (fun l => 40 :: 40 :: 41 :: 40 :: 41 :: 40 :: 40 :: 41 :: 41 :: l) = true := by kernel_rfl
theorem evFnStreamOrder_c11 (B : Blk) : allR (ok_FnStreamOrder B) 8 4 7 (fun l => 40 :: 40 :: 41 :: 40 :: 41 :: 40 :: 40 :: 40 :: 41 :: 40 :: l) = true := by kernel_rfl
theorem evFnStreamOrder_c15 (B : Blk) : allR (ok_FnStreamOrder B) 8 2 6 (fun l => 40 :: 40 :: 41 :: 40 :: 40 :: 41 :: 41 :: 40 :: 40 :: 41 :: l) = true := by kernel_rfl
theorem evFnStreamOrder_c18 (B : Blk) : allR (ok_FnStreamOrder B) 8 2 6 (fun l => 40 :: 40 :: 41 :: 40 :: 40 :: 41 :: 40 :: 41 :: 40 :: 41 :: l) = true := by kernel_rfl
theorem evFnStreamOrder_c22 (B : Blk) : allR (ok_FnStreamOrder B) 9 5 7 (fun l => 40 :: 40 :: 41 :: 40 :: 40 :: 41 :: 40 :: 40 :: 40 :: l) = true := by kernel_rfl
theorem evFnStreamOrder_c28 (B : Blk) : allR (ok_FnStreamOrder B) 9 5 7 (fun l => 40 :: 40 :: 41 :: 40 :: 40 :: 40 :: 41 :: 40 :: 40 :: l) = true := by kernel_rfl
theorem evFnStreamOrder_c32 (B : Blk) : allR (ok_FnStreamOrder B) 9 5 7 (fun l => 40 :: 40 :: 41 :: 40 :: 40 :: 40 :: 40 :: 40 :: 41 :: l) = true := by kernel_rfl
theorem evFnStreamOrder_c39 (B : Blk) : allR (ok_FnStreamOrder B) 9 1 5 (fun l => 40 :: 40 :: 40 :: 41 :: 41 :: 40 :: 40 :: 41 :: 41 :: l) = true := by kernel_rfl
theorem evFnStreamOrder_c43 (B : Blk) : allR (ok_FnStreamOrder B) 8 4 7 (fun l => 40 :: 40 :: 40 :: 41 :: 41 :: 40 :: 40 :: 40 :: 41 :: 40 :: l) = true := by kernel_rfl
theorem evFnStreamOrder_c48 (B : Blk) : allR (ok_FnStreamOrder B) 8 4 7 (fun l => 40 :: 40 :: 40 :: 41 :: 40 :: 41 :: 41 :: 40 :: 40 :: 40 :: l) = true := by kernel_rfl
theorem evFnStreamOrder_c52 (B : Blk) : allR (ok_FnStreamOrder B) 8 2 6 (fun l => 40 :: 40 :: 40 :: 41 :: 40 :: 41 :: 40 :: 40 :: 41 :: 41 :: l) = true := by kernel_rfl
theorem evFnStreamOrder_c56 (B : Blk) : allR (ok_FnStreamOrder B) 8 2 6 (fun l => 40 :: 40 :: 40 :: 41 :: 40 :: 40 :: 41 :: 41 :: 40 :: 41 :: l) = true := by kernel_rfl
theorem evFnStreamOrder_c60 (B : Blk) : allR (ok_FnStreamOrder B) 9 5 7 (fun l => 40 :: 40 :: 40 :: 41 :: 40 :: 40 :: 41 :: 40 :: 40 :: l) = true := by kernel_rfl
theorem evFnStreamOrder_c64 (B : Blk) : allR (ok_FnStreamOrder B) 9 5 7 (fun l => 40 :: 40 :: 40 :: 41 :: 40 :: 40 :: 40 :: 40 :: 41 :: l) = true := by kernel_rfl
theorem evFnStreamOrder_c70 (B : Blk) : allR (ok_FnStreamOrder B) 9 1 5 (fun l => 40 :: 40 :: 40 :: 40 :: 41 :: 41 :: 40 :: 41 :: 41 :: l) = true := by kernel_rfl
theorem evFnStreamOrder_c74 (B : Blk) : allR (ok_FnStreamOrder B) 8 4 7 (fun l => 40 :: 40 :: 40 :: 40 :: 41 :: 41 :: 40 :: 40 :: 41 :: 40 :: l) = true := by kernel_rfl
theorem evFnStreamOrder_c78 (B : Blk) : allR (ok_FnStreamOrder B) 8 4 7 (fun l => 40 :: 40 :: 40 :: 40 :: 41 :: 40 :: 41 :: 41 :: 40 :: 40 :: l) = true := by kernel_rfl
theorem evFnStreamOrder_c82 (B : Blk) : allR (ok_FnStreamOrder B) 8 2 6 (fun l => 40 :: 40 :: 40 :: 40 :: 41 :: 40 :: 40 :: 41 :: 41 :: 41 :: l) = true := by kernel_rfl
theorem evFnStreamOrder_c86 (B : Blk) : allR (ok_FnStreamOrder B) 9 7 8 (fun l => 40 :: 40 :: 40 :: 40 :: 41 :: 40 :: 40 :: 40 :: 40 :: l) = true := by kernel_rfl
theorem evFnStreamOrder_c87 (B : Blk) : allR (ok_FnStreamOrder B) 9 1 5 (fun l => 40 :: 40 :: 40 :: 40 :: 40 :: 41 :: 41 :: 41 :: 41 :: l) = true := by kernel_rfl
theorem evFnStreamOrder_c92 (B : Blk) : allR (ok_FnStreamOrder B) 9 5 7 (fun l => 40 :: 40 :: 40 :: 40 :: 40 :: 41 :: 41 :: 40 :: 40 :: l) = true := by kernel_rfl
theorem evFnStreamOrder_c96 (B : Blk) : allR (ok_FnStreamOrder B) 9 5 7 (fun l => 40 :: 40 :: 40 :: 40 :: 40 :: 41 :: 40 :: 40 :: 41 :: l) = true := by kernel_rfl
theorem evFnStreamOrder_c101 (B : Blk) : allR (ok_FnStreamOrder B) 9 5 7 (fun l => 40 :: 40 :: 40 :: 40 :: 40 :: 40 :: 41 :: 40 :: 41 :: l) = true := by kernel_rfl
end
end Go.AI.T
