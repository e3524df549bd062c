/- The evaluation, part 0. -/
import Derived.Test.YtjnmogmddhichaaFnPairFarBad
import Derived.KernelRfl
namespace Go.AI.T
open Go Go.RowKit Go.AI
set_option linter.unusedVariables false
set_option linter.unusedSimpArgs false
set_option maxRecDepth 100000
noncomputable section
theorem evFnPairFar_10_0 (B : Blk) : okA_FnPairFar B [40, 40, 41, 40, 40, 41, 40, 40, 41, 40, 40, 41, 40, 41, 41, 41, 41, 41] CH0 = true := by kernel_rfl
theorem evFnPairFar_10_1 (B : Blk) : okA_FnPairFar B [40, 40, 41, 40, 40, 41, 40, 40, 41, 40, 40, 41, 40, 41, 41, 41, 41, 41] CH1 = true := by kernel_rfl
theorem evFnPairFar_10_2 (B : Blk) : okA_FnPairFar B [40, 40, 41, 40, 40, 41, 40, 40, 41, 40, 40, 41, 40, 41, 41, 41, 41, 41] CH2 = true := by kernel_rfl
theorem evFnPairFar_10_3 (B : Blk) : okA_FnPairFar B [40, 40, 41, 40, 40, 41, 40, 40, 41, 40, 40, 41, 40, 41, 41, 41, 41, 41] CH3 = true := by kernel_rfl
theorem evFnPairFar_10_4 (B : Blk) : okA_FnPairFar B [40, 40, 41, 40, 40, 41, 40, 40, 41, 40, 40, 41, 40, 41, 41, 41, 41, 41] CH4 = true := by kernel_rfl
theorem evFnPairFar_10_5 (B : Blk) : okA_FnPairFar B [40, 40, 41, 40, 40, 41, 40, 40, 41, 40, 40, 41, 40, 41, 41, 41, 41, 41] CH5 = true := by kernel_rfl
theorem evFnPairFar_10_6 (B : Blk) : okA_FnPairFar B [40, 40, 41, 40, 40, 41, 40, 40, 41, 40, 40, 41, 40, 41, 41, 41, 41, 41] CH6 = true := by kernel_rfl
theorem evFnPairFar_10_7 (B : Blk) : okA_FnPairFar B [40, 40, 41, 40, 40, 41, 40, 40, 41, 40, 40, 41, 40, 41, 41, 41, 41, 41] CH7 = true := by kernel_rfl
theorem evFnPairFar_10 (B : Blk) : okA_FnPairFar B [40, 40, 41, 40, 40, 41, 40, 40, 41, 40, 40, 41, 40, 41, 41, 41, 41, 41] Go.AI.Q.PLx = true := by rw [pl_eq]; exact okA_app (evFnPairFar_10_0 B) (okA_app (evFnPairFar_10_1 B) (okA_app (evFnPairFar_10_2 B) (okA_app (evFnPairFar_10_3 B) (okA_app (evFnPairFar_10_4 B) (okA_app (evFnPairFar_10_5 B) (okA_app (evFnPairFar_10_6 B) (evFnPairFar_10_7 B)))))))
theorem evFnPairFar_18_0 (B : Blk) : okA_FnPairFar B [40, 40, 40, 40, 41, 40, 41, 41, 40, 41, 41, 40, 40, 41, 40, 41, 41, 41] CH0 = true := by kernel_rfl
theorem evFnPairFar_18_1 (B : Blk) : okA_FnPairFar B [40, 40, 40, 40, 41, 40, 41, 41, 40, 41, 41, 40, 40, 41, 40, 41, 41, 41] CH1 = true := by kernel_rfl
theorem evFnPairFar_18_2 (B : Blk) : okA_FnPairFar B [40, 40, 40, 40, 41, 40, 41, 41, 40, 41, 41, 40, 40, 41, 40, 41, 41, 41] CH2 = true := by kernel_rfl
theorem evFnPairFar_18_3 (B : Blk) : okA_FnPairFar B [40, 40, 40, 40, 41, 40, 41, 41, 40, 41, 41, 40, 40, 41, 40, 41, 41, 41] CH3 = true := by kernel_rfl
theorem evFnPairFar_18_4 (B : Blk) : okA_FnPairFar B [40, 40, 40, 40, 41, 40, 41, 41, 40, 41, 41, 40, 40, 41, 40, 41, 41, 41] CH4 = true := by kernel_rfl
theorem evFnPairFar_18_5 (B : Blk) : okA_FnPairFar B [40, 40, 40, 40, 41, 40, 41, 41, 40, 41, 41, 40, 40, 41, 40, 41, 41, 41] CH5 = true := by kernel_rfl
theorem evFnPairFar_18_6 (B : Blk) : okA_FnPairFar B [40, 40, 40, 40, 41, 40, 41, 41, 40, 41, 41, 40, 40, 41, 40, 41, 41, 41] CH6 = true := by kernel_rfl
theorem evFnPairFar_18_7 (B : Blk) : okA_FnPairFar B [40, 40, 40, 40, 41, 40, 41, 41, 40, 41, 41, 40, 40, 41, 40, 41, 41, 41] CH7 = true := by kernel_rfl
theorem evFnPairFar_18 (B : Blk) : okA_FnPairFar B [40, 40, 40, 40, 41, 40, 41, 41, 40, 41, 41, 40, 40, 41, 40, 41, 41, 41] Go.AI.Q.PLx = true := by rw [pl_eq]; exact okA_app (evFnPairFar_18_0 B) (okA_app (evFnPairFar_18_1 B) (okA_app (evFnPairFar_18_2 B) (okA_app (evFnPairFar_18_3 B) (okA_app (evFnPairFar_18_4 B) (okA_app (evFnPairFar_18_5 B) (okA_app (evFnPairFar_18_6 B) (evFnPairFar_18_7 B)))))))
theorem evFnPairFar_7_0 (B : Blk) : okA_FnPairFar B [40, 40, 40, 41, 40, 41, 41, 40, 40, 41, 40, 41, 41, 41] CH0 = true := by kernel_rfl
theorem evFnPairFar_7_1 (B : Blk) : okA_FnPairFar B [40, 40, 40, 41, 40, 41, 41, 40, 40, 41, 40, 41, 41, 41] CH1 = true := by kernel_rfl
theorem evFnPairFar_7_2 (B : Blk) : okA_FnPairFar B [40, 40, 40, 41, 40, 41, 41, 40, 40, 41, 40, 41, 41, 41] CH2 = true := by kernel_rfl
theorem evFnPairFar_7_3 (B : Blk) : okA_FnPairFar B [40, 40, 40, 41, 40, 41, 41, 40, 40, 41, 40, 41, 41, 41] CH3 = true := by kernel_rfl
theorem evFnPairFar_7_4 (B : Blk) : okA_FnPairFar B [40, 40, 40, 41, 40, 41, 41, 40, 40, 41, 40, 41, 41, 41] CH4 = true := by kernel_rfl
theorem evFnPairFar_7_5 (B : Blk) : okA_FnPairFar B [40, 40, 40, 41, 40, 41, 41, 40, 40, 41, 40, 41, 41, 41] CH5 = true := by kernel_rfl
theorem evFnPairFar_7_6 (B : Blk) : okA_FnPairFar B [40, 40, 40, 41, 40, 41, 41, 40, 40, 41, 40, 41, 41, 41] CH6 = true := by kernel_rfl
theorem evFnPairFar_7_7 (B : Blk) : okA_FnPairFar B [40, 40, 40, 41, 40, 41, 41, 40, 40, 41, 40, 41, 41, 41] CH7 = true := by kernel_rfl
theorem evFnPairFar_7 (B : Blk) : okA_FnPairFar B [40, 40, 40, 41, 40, 41, 41, 40, 40, 41, 40, 41, 41, 41] Go.AI.Q.PLx = true := by rw [pl_eq]; exact okA_app (evFnPairFar_7_0 B) (okA_app (evFnPairFar_7_1 B) (okA_app (evFnPairFar_7_2 B) (okA_app (evFnPairFar_7_3 B) (okA_app (evFnPairFar_7_4 B) (okA_app (evFnPairFar_7_5 B) (okA_app (evFnPairFar_7_6 B) (evFnPairFar_7_7 B)))))))
end
end Go.AI.T
