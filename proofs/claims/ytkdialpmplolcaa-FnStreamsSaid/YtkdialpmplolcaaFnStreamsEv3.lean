/- The evaluation, part 3. -/
import Derived.Test.YtkdialpmplolcaaFnStreamsBad
import Derived.KernelRfl
namespace Go.AI.T
open Go Go.RowKit Go.AI
set_option linter.unusedVariables false
set_option linter.unusedSimpArgs false
set_option maxRecDepth 100000
noncomputable section
theorem evFnStreams_c3 (B : Blk) : allR (ok_FnStreams B) 11 1 4 (fun l => 40 :: 40 :: 41 :: 40 :: 41 :: 40 :: 41 :: l) = true := by kernel_rfl
theorem evFnStreams_c8 (B : Blk) : allR (ok_FnStreams B) 10 4 6 (fun l => 40 :: 40 :: 41 :: 40 :: 40 :: 41 :: 40 :: 40 :: l) = true := by kernel_rfl
theorem evFnStreams_c14 (B : Blk) : allR (ok_FnStreams B) 10 2 5 (fun l => 40 :: 40 :: 40 :: 41 :: 41 :: 40 :: 40 :: 41 :: l) = true := by kernel_rfl
theorem evFnStreams_c17 (B : Blk) : allR (ok_FnStreams B) 10 2 5 (fun l => 40 :: 40 :: 40 :: 41 :: 40 :: 41 :: 40 :: 41 :: l) = true := by kernel_rfl
theorem evFnStreams_c20 (B : Blk) : allR (ok_FnStreams B) 10 4 6 (fun l => 40 :: 40 :: 40 :: 41 :: 40 :: 40 :: 41 :: 40 :: l) = true := by kernel_rfl
theorem evFnStreams_c24 (B : Blk) : allR (ok_FnStreams B) 10 4 6 (fun l => 40 :: 40 :: 40 :: 40 :: 41 :: 41 :: 40 :: 40 :: l) = true := by kernel_rfl
theorem evFnStreams_c28 (B : Blk) : allR (ok_FnStreams B) 10 2 5 (fun l => 40 :: 40 :: 40 :: 40 :: 40 :: 41 :: 41 :: 41 :: l) = true := by kernel_rfl
theorem evFnStreams_c31 (B : Blk) : allR (ok_FnStreams B) 11 5 6 (fun l => 40 :: 40 :: 40 :: 40 :: 40 :: 40 :: 41 :: l) = true := by kernel_rfl
end
end Go.AI.T
