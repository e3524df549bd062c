/- The evaluation, part 0. -/
import Derived.Test.YtkdialpmplolcaaFnCountChildrenBad
import Derived.KernelRfl
namespace Go.AI.T
open Go Go.RowKit Go.AI
set_option linter.unusedVariables false
set_option linter.unusedSimpArgs false
set_option maxRecDepth 100000
noncomputable section
theorem evFnCountChildren_c0 (B : Blk) : allR (ok_FnCountChildren B) 16 0 1 (fun l => 40 :: 41 :: l) = true := by kernel_rfl
theorem evFnCountChildren_c4 (B : Blk) : allR (ok_FnCountChildren B) 10 2 5 (fun l => 40 :: 40 :: 41 :: 40 :: 41 :: 40 :: 40 :: 41 :: l) = true := by kernel_rfl
theorem evFnCountChildren_c7 (B : Blk) : allR (ok_FnCountChildren B) 10 2 5 (fun l => 40 :: 40 :: 41 :: 40 :: 40 :: 41 :: 40 :: 41 :: l) = true := by kernel_rfl
theorem evFnCountChildren_c11 (B : Blk) : allR (ok_FnCountChildren B) 11 5 6 (fun l => 40 :: 40 :: 41 :: 40 :: 40 :: 40 :: 40 :: l) = true := by kernel_rfl
theorem evFnCountChildren_c19 (B : Blk) : allR (ok_FnCountChildren B) 10 2 5 (fun l => 40 :: 40 :: 40 :: 41 :: 40 :: 40 :: 41 :: 41 :: l) = true := by kernel_rfl
theorem evFnCountChildren_c23 (B : Blk) : allR (ok_FnCountChildren B) 10 2 5 (fun l => 40 :: 40 :: 40 :: 40 :: 41 :: 41 :: 40 :: 41 :: l) = true := by kernel_rfl
theorem evFnCountChildren_c26 (B : Blk) : allR (ok_FnCountChildren B) 10 4 6 (fun l => 40 :: 40 :: 40 :: 40 :: 41 :: 40 :: 41 :: 40 :: l) = true := by kernel_rfl
theorem evFnCountChildren_c30 (B : Blk) : allR (ok_FnCountChildren B) 11 5 6 (fun l => 40 :: 40 :: 40 :: 40 :: 40 :: 41 :: 40 :: l) = true := by kernel_rfl
end
end Go.AI.T
