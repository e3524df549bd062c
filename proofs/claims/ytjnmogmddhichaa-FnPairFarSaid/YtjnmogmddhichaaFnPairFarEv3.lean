/- The evaluation, part 3. -/
import Derived.Test.YtjnmogmddhichaaFnPairFarBad
import Derived.KernelRfl
namespace Go.AI.T
open Go Go.RowKit Go.AI
set_option linter.unusedVariables false
set_option linter.unusedSimpArgs false
set_option maxRecDepth 100000
noncomputable section
theorem evFnPairFar_13_0 (B : Blk) : okA_FnPairFar B [40, 40, 41, 40, 40, 40, 41, 40, 40, 41, 40, 41, 41, 41, 40, 41, 41, 41] CH0 = true := by kernel_rfl
theorem evFnPairFar_13_1 (B : Blk) : okA_FnPairFar B [40, 40, 41, 40, 40, 40, 41, 40, 40, 41, 40, 41, 41, 41, 40, 41, 41, 41] CH1 = true := by kernel_rfl
theorem evFnPairFar_13_2 (B : Blk) : okA_FnPairFar B [40, 40, 41, 40, 40, 40, 41, 40, 40, 41, 40, 41, 41, 41, 40, 41, 41, 41] CH2 = true := by kernel_rfl
theorem evFnPairFar_13_3 (B : Blk) : okA_FnPairFar B [40, 40, 41, 40, 40, 40, 41, 40, 40, 41, 40, 41, 41, 41, 40, 41, 41, 41] CH3 = true := by kernel_rfl
theorem evFnPairFar_13_4 (B : Blk) : okA_FnPairFar B [40, 40, 41, 40, 40, 40, 41, 40, 40, 41, 40, 41, 41, 41, 40, 41, 41, 41] CH4 = true := by kernel_rfl
theorem evFnPairFar_13_5 (B : Blk) : okA_FnPairFar B [40, 40, 41, 40, 40, 40, 41, 40, 40, 41, 40, 41, 41, 41, 40, 41, 41, 41] CH5 = true := by kernel_rfl
theorem evFnPairFar_13_6 (B : Blk) : okA_FnPairFar B [40, 40, 41, 40, 40, 40, 41, 40, 40, 41, 40, 41, 41, 41, 40, 41, 41, 41] CH6 = true := by kernel_rfl
theorem evFnPairFar_13_7 (B : Blk) : okA_FnPairFar B [40, 40, 41, 40, 40, 40, 41, 40, 40, 41, 40, 41, 41, 41, 40, 41, 41, 41] CH7 = true := by kernel_rfl
theorem evFnPairFar_13 (B : Blk) : okA_FnPairFar B [40, 40, 41, 40, 40, 40, 41, 40, 40, 41, 40, 41, 41, 41, 40, 41, 41, 41] Go.AI.Q.PLx = true := by rw [pl_eq]; exact okA_app (evFnPairFar_13_0 B) (okA_app (evFnPairFar_13_1 B) (okA_app (evFnPairFar_13_2 B) (okA_app (evFnPairFar_13_3 B) (okA_app (evFnPairFar_13_4 B) (okA_app (evFnPairFar_13_5 B) (okA_app (evFnPairFar_13_6 B) (evFnPairFar_13_7 B)))))))
theorem evFnPairFar_21_0 (B : Blk) : okA_FnPairFar B [40, 40, 40, 40, 41, 40, 41, 41, 40, 40, 41, 40, 41, 41, 41, 40, 41, 41] CH0 = true := by kernel_rfl
theorem evFnPairFar_21_1 (B : Blk) : okA_FnPairFar B [40, 40, 40, 40, 41, 40, 41, 41, 40, 40, 41, 40, 41, 41, 41, 40, 41, 41] CH1 = true := by kernel_rfl
theorem evFnPairFar_21_2 (B : Blk) : okA_FnPairFar B [40, 40, 40, 40, 41, 40, 41, 41, 40, 40, 41, 40, 41, 41, 41, 40, 41, 41] CH2 = true := by kernel_rfl
theorem evFnPairFar_21_3 (B : Blk) : okA_FnPairFar B [40, 40, 40, 40, 41, 40, 41, 41, 40, 40, 41, 40, 41, 41, 41, 40, 41, 41] CH3 = true := by kernel_rfl
theorem evFnPairFar_21_4 (B : Blk) : okA_FnPairFar B [40, 40, 40, 40, 41, 40, 41, 41, 40, 40, 41, 40, 41, 41, 41, 40, 41, 41] CH4 = true := by kernel_rfl
theorem evFnPairFar_21_5 (B : Blk) : okA_FnPairFar B [40, 40, 40, 40, 41, 40, 41, 41, 40, 40, 41, 40, 41, 41, 41, 40, 41, 41] CH5 = true := by kernel_rfl
theorem evFnPairFar_21_6 (B : Blk) : okA_FnPairFar B [40, 40, 40, 40, 41, 40, 41, 41, 40, 40, 41, 40, 41, 41, 41, 40, 41, 41] CH6 = true := by kernel_rfl
theorem evFnPairFar_21_7 (B : Blk) : okA_FnPairFar B [40, 40, 40, 40, 41, 40, 41, 41, 40, 40, 41, 40, 41, 41, 41, 40, 41, 41] CH7 = true := by kernel_rfl
theorem evFnPairFar_21 (B : Blk) : okA_FnPairFar B [40, 40, 40, 40, 41, 40, 41, 41, 40, 40, 41, 40, 41, 41, 41, 40, 41, 41] Go.AI.Q.PLx = true := by rw [pl_eq]; exact okA_app (evFnPairFar_21_0 B) (okA_app (evFnPairFar_21_1 B) (okA_app (evFnPairFar_21_2 B) (okA_app (evFnPairFar_21_3 B) (okA_app (evFnPairFar_21_4 B) (okA_app (evFnPairFar_21_5 B) (okA_app (evFnPairFar_21_6 B) (evFnPairFar_21_7 B)))))))
theorem evFnPairFar_3_0 (B : Blk) : okA_FnPairFar B [40, 40, 41, 40, 40, 41, 40, 41, 41, 41] CH0 = true := by kernel_rfl
theorem evFnPairFar_3_1 (B : Blk) : okA_FnPairFar B [40, 40, 41, 40, 40, 41, 40, 41, 41, 41] CH1 = true := by kernel_rfl
theorem evFnPairFar_3_2 (B : Blk) : okA_FnPairFar B [40, 40, 41, 40, 40, 41, 40, 41, 41, 41] CH2 = true := by kernel_rfl
theorem evFnPairFar_3_3 (B : Blk) : okA_FnPairFar B [40, 40, 41, 40, 40, 41, 40, 41, 41, 41] CH3 = true := by kernel_rfl
theorem evFnPairFar_3_4 (B : Blk) : okA_FnPairFar B [40, 40, 41, 40, 40, 41, 40, 41, 41, 41] CH4 = true := by kernel_rfl
theorem evFnPairFar_3_5 (B : Blk) : okA_FnPairFar B [40, 40, 41, 40, 40, 41, 40, 41, 41, 41] CH5 = true := by kernel_rfl
theorem evFnPairFar_3_6 (B : Blk) : okA_FnPairFar B [40, 40, 41, 40, 40, 41, 40, 41, 41, 41] CH6 = true := by kernel_rfl
theorem evFnPairFar_3_7 (B : Blk) : okA_FnPairFar B [40, 40, 41, 40, 40, 41, 40, 41, 41, 41] CH7 = true := by kernel_rfl
theorem evFnPairFar_3 (B : Blk) : okA_FnPairFar B [40, 40, 41, 40, 40, 41, 40, 41, 41, 41] Go.AI.Q.PLx = true := by rw [pl_eq]; exact okA_app (evFnPairFar_3_0 B) (okA_app (evFnPairFar_3_1 B) (okA_app (evFnPairFar_3_2 B) (okA_app (evFnPairFar_3_3 B) (okA_app (evFnPairFar_3_4 B) (okA_app (evFnPairFar_3_5 B) (okA_app (evFnPairFar_3_6 B) (evFnPairFar_3_7 B)))))))
end
end Go.AI.T
