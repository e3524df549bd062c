/- The evaluation, part 5. -/
import Derived.Test.YtjnmogmddhichaaFnPairFarBad
import Derived.KernelRfl
namespace Go.AI.T
open Go Go.RowKit Go.AI
set_option linter.unusedVariables false
set_option linter.unusedSimpArgs false
set_option maxRecDepth 100000
noncomputable section
theorem evFnPairFar_15_0 (B : Blk) : okA_FnPairFar B [40, 40, 40, 41, 40, 41, 41, 40, 40, 41, 40, 40, 41, 40, 41, 41, 41, 41] CH0 = true := by kernel_rfl
theorem evFnPairFar_15_1 (B : Blk) : okA_FnPairFar B [40, 40, 40, 41, 40, 41, 41, 40, 40, 41, 40, 40, 41, 40, 41, 41, 41, 41] CH1 = true := by kernel_rfl
theorem evFnPairFar_15_2 (B : Blk) : okA_FnPairFar B [40, 40, 40, 41, 40, 41, 41, 40, 40, 41, 40, 40, 41, 40, 41, 41, 41, 41] CH2 = true := by kernel_rfl
theorem evFnPairFar_15_3 (B : Blk) : okA_FnPairFar B [40, 40, 40, 41, 40, 41, 41, 40, 40, 41, 40, 40, 41, 40, 41, 41, 41, 41] CH3 = true := by kernel_rfl
theorem evFnPairFar_15_4 (B : Blk) : okA_FnPairFar B [40, 40, 40, 41, 40, 41, 41, 40, 40, 41, 40, 40, 41, 40, 41, 41, 41, 41] CH4 = true := by kernel_rfl
theorem evFnPairFar_15_5 (B : Blk) : okA_FnPairFar B [40, 40, 40, 41, 40, 41, 41, 40, 40, 41, 40, 40, 41, 40, 41, 41, 41, 41] CH5 = true := by kernel_rfl
theorem evFnPairFar_15_6 (B : Blk) : okA_FnPairFar B [40, 40, 40, 41, 40, 41, 41, 40, 40, 41, 40, 40, 41, 40, 41, 41, 41, 41] CH6 = true := by kernel_rfl
theorem evFnPairFar_15_7 (B : Blk) : okA_FnPairFar B [40, 40, 40, 41, 40, 41, 41, 40, 40, 41, 40, 40, 41, 40, 41, 41, 41, 41] CH7 = true := by kernel_rfl
theorem evFnPairFar_15 (B : Blk) : okA_FnPairFar B [40, 40, 40, 41, 40, 41, 41, 40, 40, 41, 40, 40, 41, 40, 41, 41, 41, 41] Go.AI.Q.PLx = true := by rw [pl_eq]; exact okA_app (evFnPairFar_15_0 B) (okA_app (evFnPairFar_15_1 B) (okA_app (evFnPairFar_15_2 B) (okA_app (evFnPairFar_15_3 B) (okA_app (evFnPairFar_15_4 B) (okA_app (evFnPairFar_15_5 B) (okA_app (evFnPairFar_15_6 B) (evFnPairFar_15_7 B)))))))
theorem evFnPairFar_23_0 (B : Blk) : okA_FnPairFar B [40, 40, 40, 40, 40, 41, 40, 41, 41, 40, 41, 41, 40, 41, 41, 40, 41, 41] CH0 = true := by kernel_rfl
theorem evFnPairFar_23_1 (B : Blk) : okA_FnPairFar B [40, 40, 40, 40, 40, 41, 40, 41, 41, 40, 41, 41, 40, 41, 41, 40, 41, 41] CH1 = true := by kernel_rfl
theorem evFnPairFar_23_2 (B : Blk) : okA_FnPairFar B [40, 40, 40, 40, 40, 41, 40, 41, 41, 40, 41, 41, 40, 41, 41, 40, 41, 41] CH2 = true := by kernel_rfl
theorem evFnPairFar_23_3 (B : Blk) : okA_FnPairFar B [40, 40, 40, 40, 40, 41, 40, 41, 41, 40, 41, 41, 40, 41, 41, 40, 41, 41] CH3 = true := by kernel_rfl
theorem evFnPairFar_23_4 (B : Blk) : okA_FnPairFar B [40, 40, 40, 40, 40, 41, 40, 41, 41, 40, 41, 41, 40, 41, 41, 40, 41, 41] CH4 = true := by kernel_rfl
theorem evFnPairFar_23_5 (B : Blk) : okA_FnPairFar B [40, 40, 40, 40, 40, 41, 40, 41, 41, 40, 41, 41, 40, 41, 41, 40, 41, 41] CH5 = true := by kernel_rfl
theorem evFnPairFar_23_6 (B : Blk) : okA_FnPairFar B [40, 40, 40, 40, 40, 41, 40, 41, 41, 40, 41, 41, 40, 41, 41, 40, 41, 41] CH6 = true := by kernel_rfl
theorem evFnPairFar_23_7 (B : Blk) : okA_FnPairFar B [40, 40, 40, 40, 40, 41, 40, 41, 41, 40, 41, 41, 40, 41, 41, 40, 41, 41] CH7 = true := by kernel_rfl
theorem evFnPairFar_23 (B : Blk) : okA_FnPairFar B [40, 40, 40, 40, 40, 41, 40, 41, 41, 40, 41, 41, 40, 41, 41, 40, 41, 41] Go.AI.Q.PLx = true := by rw [pl_eq]; exact okA_app (evFnPairFar_23_0 B) (okA_app (evFnPairFar_23_1 B) (okA_app (evFnPairFar_23_2 B) (okA_app (evFnPairFar_23_3 B) (okA_app (evFnPairFar_23_4 B) (okA_app (evFnPairFar_23_5 B) (okA_app (evFnPairFar_23_6 B) (evFnPairFar_23_7 B)))))))
theorem evFnPairFar_2_0 (B : Blk) : okA_FnPairFar B [40, 40, 41, 40, 41, 41] CH0 = true := by kernel_rfl
theorem evFnPairFar_2_1 (B : Blk) : okA_FnPairFar B [40, 40, 41, 40, 41, 41] CH1 = true := by kernel_rfl
theorem evFnPairFar_2_2 (B : Blk) : okA_FnPairFar B [40, 40, 41, 40, 41, 41] CH2 = true := by kernel_rfl
theorem evFnPairFar_2_3 (B : Blk) : okA_FnPairFar B [40, 40, 41, 40, 41, 41] CH3 = true := by kernel_rfl
theorem evFnPairFar_2_4 (B : Blk) : okA_FnPairFar B [40, 40, 41, 40, 41, 41] CH4 = true := by kernel_rfl
theorem evFnPairFar_2_5 (B : Blk) : okA_FnPairFar B [40, 40, 41, 40, 41, 41] CH5 = true := by kernel_rfl
theorem evFnPairFar_2_6 (B : Blk) : okA_FnPairFar B [40, 40, 41, 40, 41, 41] CH6 = true := by kernel_rfl
theorem evFnPairFar_2_7 (B : Blk) : okA_FnPairFar B [40, 40, 41, 40, 41, 41] CH7 = true := by kernel_rfl
theorem evFnPairFar_2 (B : Blk) : okA_FnPairFar B [40, 40, 41, 40, 41, 41] Go.AI.Q.PLx = true := by rw [pl_eq]; exact okA_app (evFnPairFar_2_0 B) (okA_app (evFnPairFar_2_1 B) (okA_app (evFnPairFar_2_2 B) (okA_app (evFnPairFar_2_3 B) (okA_app (evFnPairFar_2_4 B) (okA_app (evFnPairFar_2_5 B) (okA_app (evFnPairFar_2_6 B) (evFnPairFar_2_7 B)))))))
end
end Go.AI.T
