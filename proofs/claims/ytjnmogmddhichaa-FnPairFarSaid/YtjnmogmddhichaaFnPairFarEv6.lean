/- The evaluation, part 6. -/
import Derived.Test.YtjnmogmddhichaaFnPairFarBad
import Derived.KernelRfl
namespace Go.AI.T
open Go Go.RowKit Go.AI
set_option linter.unusedVariables false
set_option linter.unusedSimpArgs false
set_option maxRecDepth 100000
noncomputable section
theorem evFnPairFar_16_0 (B : Blk) : okA_FnPairFar B [40, 40, 40, 41, 40, 41, 41, 40, 40, 40, 41, 40, 41, 41, 40, 41, 41, 41] CH0 = true := by kernel_rfl
theorem evFnPairFar_16_1 (B : Blk) : okA_FnPairFar B [40, 40, 40, 41, 40, 41, 41, 40, 40, 40, 41, 40, 41, 41, 40, 41, 41, 41] CH1 = true := by kernel_rfl
theorem evFnPairFar_16_2 (B : Blk) : okA_FnPairFar B [40, 40, 40, 41, 40, 41, 41, 40, 40, 40, 41, 40, 41, 41, 40, 41, 41, 41] CH2 = true := by kernel_rfl
theorem evFnPairFar_16_3 (B : Blk) : okA_FnPairFar B [40, 40, 40, 41, 40, 41, 41, 40, 40, 40, 41, 40, 41, 41, 40, 41, 41, 41] CH3 = true := by kernel_rfl
theorem evFnPairFar_16_4 (B : Blk) : okA_FnPairFar B [40, 40, 40, 41, 40, 41, 41, 40, 40, 40, 41, 40, 41, 41, 40, 41, 41, 41] CH4 = true := by kernel_rfl
theorem evFnPairFar_16_5 (B : Blk) : okA_FnPairFar B [40, 40, 40, 41, 40, 41, 41, 40, 40, 40, 41, 40, 41, 41, 40, 41, 41, 41] CH5 = true := by kernel_rfl
theorem evFnPairFar_16_6 (B : Blk) : okA_FnPairFar B [40, 40, 40, 41, 40, 41, 41, 40, 40, 40, 41, 40, 41, 41, 40, 41, 41, 41] CH6 = true := by kernel_rfl
theorem evFnPairFar_16_7 (B : Blk) : okA_FnPairFar B [40, 40, 40, 41, 40, 41, 41, 40, 40, 40, 41, 40, 41, 41, 40, 41, 41, 41] CH7 = true := by kernel_rfl
theorem evFnPairFar_16 (B : Blk) : okA_FnPairFar B [40, 40, 40, 41, 40, 41, 41, 40, 40, 40, 41, 40, 41, 41, 40, 41, 41, 41] Go.AI.Q.PLx = true := by rw [pl_eq]; exact okA_app (evFnPairFar_16_0 B) (okA_app (evFnPairFar_16_1 B) (okA_app (evFnPairFar_16_2 B) (okA_app (evFnPairFar_16_3 B) (okA_app (evFnPairFar_16_4 B) (okA_app (evFnPairFar_16_5 B) (okA_app (evFnPairFar_16_6 B) (evFnPairFar_16_7 B)))))))
theorem evFnPairFar_5_0 (B : Blk) : okA_FnPairFar B [40, 40, 41, 40, 40, 41, 40, 40, 41, 40, 41, 41, 41, 41] CH0 = true := by kernel_rfl
theorem evFnPairFar_5_1 (B : Blk) : okA_FnPairFar B [40, 40, 41, 40, 40, 41, 40, 40, 41, 40, 41, 41, 41, 41] CH1 = true := by kernel_rfl
theorem evFnPairFar_5_2 (B : Blk) : okA_FnPairFar B [40, 40, 41, 40, 40, 41, 40, 40, 41, 40, 41, 41, 41, 41] CH2 = true := by kernel_rfl
theorem evFnPairFar_5_3 (B : Blk) : okA_FnPairFar B [40, 40, 41, 40, 40, 41, 40, 40, 41, 40, 41, 41, 41, 41] CH3 = true := by kernel_rfl
theorem evFnPairFar_5_4 (B : Blk) : okA_FnPairFar B [40, 40, 41, 40, 40, 41, 40, 40, 41, 40, 41, 41, 41, 41] CH4 = true := by kernel_rfl
theorem evFnPairFar_5_5 (B : Blk) : okA_FnPairFar B [40, 40, 41, 40, 40, 41, 40, 40, 41, 40, 41, 41, 41, 41] CH5 = true := by kernel_rfl
theorem evFnPairFar_5_6 (B : Blk) : okA_FnPairFar B [40, 40, 41, 40, 40, 41, 40, 40, 41, 40, 41, 41, 41, 41] CH6 = true := by kernel_rfl
theorem evFnPairFar_5_7 (B : Blk) : okA_FnPairFar B [40, 40, 41, 40, 40, 41, 40, 40, 41, 40, 41, 41, 41, 41] CH7 = true := by kernel_rfl
theorem evFnPairFar_5 (B : Blk) : okA_FnPairFar B [40, 40, 41, 40, 40, 41, 40, 40, 41, 40, 41, 41, 41, 41] Go.AI.Q.PLx = true := by rw [pl_eq]; exact okA_app (evFnPairFar_5_0 B) (okA_app (evFnPairFar_5_1 B) (okA_app (evFnPairFar_5_2 B) (okA_app (evFnPairFar_5_3 B) (okA_app (evFnPairFar_5_4 B) (okA_app (evFnPairFar_5_5 B) (okA_app (evFnPairFar_5_6 B) (evFnPairFar_5_7 B)))))))
theorem evFnPairFar_1_0 (B : Blk) : okA_FnPairFar B [40, 41] CH0 = true := by kernel_rfl
theorem evFnPairFar_1_1 (B : Blk) : okA_FnPairFar B [40, 41] CH1 = true := by kernel_rfl
theorem evFnPairFar_1_2 (B : Blk) : okA_FnPairFar B [40, 41] CH2 = true := by kernel_rfl
theorem evFnPairFar_1_3 (B : Blk) : okA_FnPairFar B [40, 41] CH3 = true := by kernel_rfl
theorem evFnPairFar_1_4 (B : Blk) : okA_FnPairFar B [40, 41] CH4 = true := by kernel_rfl
theorem evFnPairFar_1_5 (B : Blk) : okA_FnPairFar B [40, 41] CH5 = true := by kernel_rfl
theorem evFnPairFar_1_6 (B : Blk) : okA_FnPairFar B [40, 41] CH6 = true := by kernel_rfl
theorem evFnPairFar_1_7 (B : Blk) : okA_FnPairFar B [40, 41] CH7 = true := by kernel_rfl
theorem evFnPairFar_1 (B : Blk) : okA_FnPairFar B [40, 41] Go.AI.Q.PLx = true := by rw [pl_eq]; exact okA_app (evFnPairFar_1_0 B) (okA_app (evFnPairFar_1_1 B) (okA_app (evFnPairFar_1_2 B) (okA_app (evFnPairFar_1_3 B) (okA_app (evFnPairFar_1_4 B) (okA_app (evFnPairFar_1_5 B) (okA_app (evFnPairFar_1_6 B) (evFnPairFar_1_7 B)))))))
end
end Go.AI.T
