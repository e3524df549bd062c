/- The evaluation, part 2. -/
import Derived.Test.YtkdialpmplolcaaFnRegistersBad
import Derived.KernelRfl
namespace Go.AI.T
open Go Go.RowKit Go.AI
set_option linter.unusedVariables false
set_option linter.unusedSimpArgs false
set_option maxRecDepth 100000
noncomputable section
theorem evFnRegisters_c2 (B : Blk) : allR (ok_FnRegisters B) 12 0 3 (fun l => 40 :: 40 :: 41 :: 40 :: 41 :: 41 :: l) = true := by kernel_rfl
theorem evFnRegisters_c6 (B : Blk) : allR (ok_FnRegisters B) 11 1 4 (fun l => 40 :: 40 :: 41 :: 40 :: 40 :: 41 :: 41 :: l) = true := by kernel_rfl
theorem evFnRegisters_c9 (B : Blk) : allR (ok_FnRegisters B) 10 2 5 (fun l => 40 :: 40 :: 41 :: 40 :: 40 :: 40 :: 41 :: 41 :: l) = true := by kernel_rfl
theorem evFnRegisters_c12 (B : Blk) : allR (ok_FnRegisters B) 12 0 3 (fun l => 40 :: 40 :: 40 :: 41 :: 41 :: 41 :: l) = true := by kernel_rfl
theorem evFnRegisters_c13 (B : Blk) : allR (ok_FnRegisters B) 11 1 4 (fun l => 40 :: 40 :: 40 :: 41 :: 41 :: 40 :: 41 :: l) = true := by kernel_rfl
theorem evFnRegisters_c16 (B : Blk) : allR (ok_FnRegisters B) 11 1 4 (fun l => 40 :: 40 :: 40 :: 41 :: 40 :: 41 :: 41 :: l) = true := by kernel_rfl
theorem evFnRegisters_c21 (B : Blk) : allR (ok_FnRegisters B) 11 5 6 (fun l => 40 :: 40 :: 40 :: 41 :: 40 :: 40 :: 40 :: l) = true := by kernel_rfl
theorem evFnRegisters_c27 (B : Blk) : allR (ok_FnRegisters B) 11 5 6 (fun l => 40 :: 40 :: 40 :: 40 :: 41 :: 40 :: 40 :: l) = true := by kernel_rfl
theorem evFnRegisters_c32 (B : Blk) : allR (ok_FnRegisters B) 11 7 7 (fun l => 40 :: 40 :: 40 :: 40 :: 40 :: 40 :: 40 :: l) = true := by kernel_rfl
end
end Go.AI.T
