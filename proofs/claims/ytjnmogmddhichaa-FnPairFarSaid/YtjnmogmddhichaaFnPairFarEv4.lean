/- The evaluation, part 4. -/
import Derived.Test.YtjnmogmddhichaaFnPairFarBad
import Derived.KernelRfl
namespace Go.AI.T
open Go Go.RowKit Go.AI
set_option linter.unusedVariables false
set_option linter.unusedSimpArgs false
set_option maxRecDepth 100000
noncomputable section
theorem evFnPairFar_14_0 (B : Blk) : okA_FnPairFar B [40, 40, 41, 40, 40, 40, 40, 41, 40, 41, 41, 40, 41, 41, 40, 41, 41, 41] CH0 = true := by kernel_rfl
theorem evFnPairFar_14_1 (B : Blk) : okA_FnPairFar B [40, 40, 41, 40, 40, 40, 40, 41, 40, 41, 41, 40, 41, 41, 40, 41, 41, 41] CH1 = true := by kernel_rfl
theorem evFnPairFar_14_2 (B : Blk) : okA_FnPairFar B [40, 40, 41, 40, 40, 40, 40, 41, 40, 41, 41, 40, 41, 41, 40, 41, 41, 41] CH2 = true := by kernel_rfl
theorem evFnPairFar_14_3 (B : Blk) : okA_FnPairFar B [40, 40, 41, 40, 40, 40, 40, 41, 40, 41, 41, 40, 41, 41, 40, 41, 41, 41] CH3 = true := by kernel_rfl
theorem evFnPairFar_14_4 (B : Blk) : okA_FnPairFar B [40, 40, 41, 40, 40, 40, 40, 41, 40, 41, 41, 40, 41, 41, 40, 41, 41, 41] CH4 = true := by kernel_rfl
theorem evFnPairFar_14_5 (B : Blk) : okA_FnPairFar B [40, 40, 41, 40, 40, 40, 40, 41, 40, 41, 41, 40, 41, 41, 40, 41, 41, 41] CH5 = true := by kernel_rfl
theorem evFnPairFar_14_6 (B : Blk) : okA_FnPairFar B [40, 40, 41, 40, 40, 40, 40, 41, 40, 41, 41, 40, 41, 41, 40, 41, 41, 41] CH6 = true := by kernel_rfl
theorem evFnPairFar_14_7 (B : Blk) : okA_FnPairFar B [40, 40, 41, 40, 40, 40, 40, 41, 40, 41, 41, 40, 41, 41, 40, 41, 41, 41] CH7 = true := by kernel_rfl
theorem evFnPairFar_14 (B : Blk) : okA_FnPairFar B [40, 40, 41, 40, 40, 40, 40, 41, 40, 41, 41, 40, 41, 41, 40, 41, 41, 41] Go.AI.Q.PLx = true := by rw [pl_eq]; exact okA_app (evFnPairFar_14_0 B) (okA_app (evFnPairFar_14_1 B) (okA_app (evFnPairFar_14_2 B) (okA_app (evFnPairFar_14_3 B) (okA_app (evFnPairFar_14_4 B) (okA_app (evFnPairFar_14_5 B) (okA_app (evFnPairFar_14_6 B) (evFnPairFar_14_7 B)))))))
theorem evFnPairFar_22_0 (B : Blk) : okA_FnPairFar B [40, 40, 40, 40, 41, 40, 40, 41, 40, 41, 41, 41, 40, 41, 41, 40, 41, 41] CH0 = true := by kernel_rfl
theorem evFnPairFar_22_1 (B : Blk) : okA_FnPairFar B [40, 40, 40, 40, 41, 40, 40, 41, 40, 41, 41, 41, 40, 41, 41, 40, 41, 41] CH1 = true := by kernel_rfl
theorem evFnPairFar_22_2 (B : Blk) : okA_FnPairFar B [40, 40, 40, 40, 41, 40, 40, 41, 40, 41, 41, 41, 40, 41, 41, 40, 41, 41] CH2 = true := by kernel_rfl
theorem evFnPairFar_22_3 (B : Blk) : okA_FnPairFar B [40, 40, 40, 40, 41, 40, 40, 41, 40, 41, 41, 41, 40, 41, 41, 40, 41, 41] CH3 = true := by kernel_rfl
theorem evFnPairFar_22_4 (B : Blk) : okA_FnPairFar B [40, 40, 40, 40, 41, 40, 40, 41, 40, 41, 41, 41, 40, 41, 41, 40, 41, 41] CH4 = true := by kernel_rfl
theorem evFnPairFar_22_5 (B : Blk) : okA_FnPairFar B [40, 40, 40, 40, 41, 40, 40, 41, 40, 41, 41, 41, 40, 41, 41, 40, 41, 41] CH5 = true := by kernel_rfl
theorem evFnPairFar_22_6 (B : Blk) : okA_FnPairFar B [40, 40, 40, 40, 41, 40, 40, 41, 40, 41, 41, 41, 40, 41, 41, 40, 41, 41] CH6 = true := by kernel_rfl
theorem evFnPairFar_22_7 (B : Blk) : okA_FnPairFar B [40, 40, 40, 40, 41, 40, 40, 41, 40, 41, 41, 41, 40, 41, 41, 40, 41, 41] CH7 = true := by kernel_rfl
theorem evFnPairFar_22 (B : Blk) : okA_FnPairFar B [40, 40, 40, 40, 41, 40, 40, 41, 40, 41, 41, 41, 40, 41, 41, 40, 41, 41] Go.AI.Q.PLx = true := by rw [pl_eq]; exact okA_app (evFnPairFar_22_0 B) (okA_app (evFnPairFar_22_1 B) (okA_app (evFnPairFar_22_2 B) (okA_app (evFnPairFar_22_3 B) (okA_app (evFnPairFar_22_4 B) (okA_app (evFnPairFar_22_5 B) (okA_app (evFnPairFar_22_6 B) (evFnPairFar_22_7 B)))))))
theorem evFnPairFar_4_0 (B : Blk) : okA_FnPairFar B [40, 40, 40, 41, 40, 41, 41, 40, 41, 41] CH0 = true := by kernel_rfl
theorem evFnPairFar_4_1 (B : Blk) : okA_FnPairFar B [40, 40, 40, 41, 40, 41, 41, 40, 41, 41] CH1 = true := by kernel_rfl
theorem evFnPairFar_4_2 (B : Blk) : okA_FnPairFar B [40, 40, 40, 41, 40, 41, 41, 40, 41, 41] CH2 = true := by kernel_rfl
theorem evFnPairFar_4_3 (B : Blk) : okA_FnPairFar B [40, 40, 40, 41, 40, 41, 41, 40, 41, 41] CH3 = true := by kernel_rfl
theorem evFnPairFar_4_4 (B : Blk) : okA_FnPairFar B [40, 40, 40, 41, 40, 41, 41, 40, 41, 41] CH4 = true := by kernel_rfl
theorem evFnPairFar_4_5 (B : Blk) : okA_FnPairFar B [40, 40, 40, 41, 40, 41, 41, 40, 41, 41] CH5 = true := by kernel_rfl
theorem evFnPairFar_4_6 (B : Blk) : okA_FnPairFar B [40, 40, 40, 41, 40, 41, 41, 40, 41, 41] CH6 = true := by kernel_rfl
theorem evFnPairFar_4_7 (B : Blk) : okA_FnPairFar B [40, 40, 40, 41, 40, 41, 41, 40, 41, 41] CH7 = true := by kernel_rfl
theorem evFnPairFar_4 (B : Blk) : okA_FnPairFar B [40, 40, 40, 41, 40, 41, 41, 40, 41, 41] Go.AI.Q.PLx = true := by rw [pl_eq]; exact okA_app (evFnPairFar_4_0 B) (okA_app (evFnPairFar_4_1 B) (okA_app (evFnPairFar_4_2 B) (okA_app (evFnPairFar_4_3 B) (okA_app (evFnPairFar_4_4 B) (okA_app (evFnPairFar_4_5 B) (okA_app (evFnPairFar_4_6 B) (evFnPairFar_4_7 B)))))))
end
end Go.AI.T
