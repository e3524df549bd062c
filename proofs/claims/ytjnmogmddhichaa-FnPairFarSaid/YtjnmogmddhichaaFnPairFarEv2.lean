/- The evaluation, part 2. -/
import Derived.Test.YtjnmogmddhichaaFnPairFarBad
import Derived.KernelRfl
namespace Go.AI.T
open Go Go.RowKit Go.AI
set_option linter.unusedVariables false
set_option linter.unusedSimpArgs false
set_option maxRecDepth 100000
noncomputable section
theorem evFnPairFar_12_0 (B : Blk) : okA_FnPairFar B [40, 40, 41, 40, 40, 40, 41, 40, 41, 41, 40, 40, 41, 40, 41, 41, 41, 41] CH0 = true := by kernel_rfl
theorem evFnPairFar_12_1 (B : Blk) : okA_FnPairFar B [40, 40, 41, 40, 40, 40, 41, 40, 41, 41, 40, 40, 41, 40, 41, 41, 41, 41] CH1 = true := by kernel_rfl
theorem evFnPairFar_12_2 (B : Blk) : okA_FnPairFar B [40, 40, 41, 40, 40, 40, 41, 40, 41, 41, 40, 40, 41, 40, 41, 41, 41, 41] CH2 = true := by kernel_rfl
theorem evFnPairFar_12_3 (B : Blk) : okA_FnPairFar B [40, 40, 41, 40, 40, 40, 41, 40, 41, 41, 40, 40, 41, 40, 41, 41, 41, 41] CH3 = true := by kernel_rfl
theorem evFnPairFar_12_4 (B : Blk) : okA_FnPairFar B [40, 40, 41, 40, 40, 40, 41, 40, 41, 41, 40, 40, 41, 40, 41, 41, 41, 41] CH4 = true := by kernel_rfl
theorem evFnPairFar_12_5 (B : Blk) : okA_FnPairFar B [40, 40, 41, 40, 40, 40, 41, 40, 41, 41, 40, 40, 41, 40, 41, 41, 41, 41] CH5 = true := by kernel_rfl
theorem evFnPairFar_12_6 (B : Blk) : okA_FnPairFar B [40, 40, 41, 40, 40, 40, 41, 40, 41, 41, 40, 40, 41, 40, 41, 41, 41, 41] CH6 = true := by kernel_rfl
theorem evFnPairFar_12_7 (B : Blk) : okA_FnPairFar B [40, 40, 41, 40, 40, 40, 41, 40, 41, 41, 40, 40, 41, 40, 41, 41, 41, 41] CH7 = true := by kernel_rfl
theorem evFnPairFar_12 (B : Blk) : okA_FnPairFar B [40, 40, 41, 40, 40, 40, 41, 40, 41, 41, 40, 40, 41, 40, 41, 41, 41, 41] Go.AI.Q.PLx = true := by rw [pl_eq]; exact okA_app (evFnPairFar_12_0 B) (okA_app (evFnPairFar_12_1 B) (okA_app (evFnPairFar_12_2 B) (okA_app (evFnPairFar_12_3 B) (okA_app (evFnPairFar_12_4 B) (okA_app (evFnPairFar_12_5 B) (okA_app (evFnPairFar_12_6 B) (evFnPairFar_12_7 B)))))))
theorem evFnPairFar_20_0 (B : Blk) : okA_FnPairFar B [40, 40, 40, 41, 40, 40, 40, 41, 40, 41, 41, 40, 41, 41, 41, 40, 41, 41] CH0 = true := by kernel_rfl
theorem evFnPairFar_20_1 (B : Blk) : okA_FnPairFar B [40, 40, 40, 41, 40, 40, 40, 41, 40, 41, 41, 40, 41, 41, 41, 40, 41, 41] CH1 = true := by kernel_rfl
theorem evFnPairFar_20_2 (B : Blk) : okA_FnPairFar B [40, 40, 40, 41, 40, 40, 40, 41, 40, 41, 41, 40, 41, 41, 41, 40, 41, 41] CH2 = true := by kernel_rfl
theorem evFnPairFar_20_3 (B : Blk) : okA_FnPairFar B [40, 40, 40, 41, 40, 40, 40, 41, 40, 41, 41, 40, 41, 41, 41, 40, 41, 41] CH3 = true := by kernel_rfl
theorem evFnPairFar_20_4 (B : Blk) : okA_FnPairFar B [40, 40, 40, 41, 40, 40, 40, 41, 40, 41, 41, 40, 41, 41, 41, 40, 41, 41] CH4 = true := by kernel_rfl
theorem evFnPairFar_20_5 (B : Blk) : okA_FnPairFar B [40, 40, 40, 41, 40, 40, 40, 41, 40, 41, 41, 40, 41, 41, 41, 40, 41, 41] CH5 = true := by kernel_rfl
theorem evFnPairFar_20_6 (B : Blk) : okA_FnPairFar B [40, 40, 40, 41, 40, 40, 40, 41, 40, 41, 41, 40, 41, 41, 41, 40, 41, 41] CH6 = true := by kernel_rfl
theorem evFnPairFar_20_7 (B : Blk) : okA_FnPairFar B [40, 40, 40, 41, 40, 40, 40, 41, 40, 41, 41, 40, 41, 41, 41, 40, 41, 41] CH7 = true := by kernel_rfl
theorem evFnPairFar_20 (B : Blk) : okA_FnPairFar B [40, 40, 40, 41, 40, 40, 40, 41, 40, 41, 41, 40, 41, 41, 41, 40, 41, 41] Go.AI.Q.PLx = true := by rw [pl_eq]; exact okA_app (evFnPairFar_20_0 B) (okA_app (evFnPairFar_20_1 B) (okA_app (evFnPairFar_20_2 B) (okA_app (evFnPairFar_20_3 B) (okA_app (evFnPairFar_20_4 B) (okA_app (evFnPairFar_20_5 B) (okA_app (evFnPairFar_20_6 B) (evFnPairFar_20_7 B)))))))
theorem evFnPairFar_9_0 (B : Blk) : okA_FnPairFar B [40, 40, 40, 40, 41, 40, 41, 41, 40, 41, 41, 40, 41, 41] CH0 = true := by kernel_rfl
theorem evFnPairFar_9_1 (B : Blk) : okA_FnPairFar B [40, 40, 40, 40, 41, 40, 41, 41, 40, 41, 41, 40, 41, 41] CH1 = true := by kernel_rfl
theorem evFnPairFar_9_2 (B : Blk) : okA_FnPairFar B [40, 40, 40, 40, 41, 40, 41, 41, 40, 41, 41, 40, 41, 41] CH2 = true := by kernel_rfl
theorem evFnPairFar_9_3 (B : Blk) : okA_FnPairFar B [40, 40, 40, 40, 41, 40, 41, 41, 40, 41, 41, 40, 41, 41] CH3 = true := by kernel_rfl
theorem evFnPairFar_9_4 (B : Blk) : okA_FnPairFar B [40, 40, 40, 40, 41, 40, 41, 41, 40, 41, 41, 40, 41, 41] CH4 = true := by kernel_rfl
theorem evFnPairFar_9_5 (B : Blk) : okA_FnPairFar B [40, 40, 40, 40, 41, 40, 41, 41, 40, 41, 41, 40, 41, 41] CH5 = true := by kernel_rfl
theorem evFnPairFar_9_6 (B : Blk) : okA_FnPairFar B [40, 40, 40, 40, 41, 40, 41, 41, 40, 41, 41, 40, 41, 41] CH6 = true := by kernel_rfl
theorem evFnPairFar_9_7 (B : Blk) : okA_FnPairFar B [40, 40, 40, 40, 41, 40, 41, 41, 40, 41, 41, 40, 41, 41] CH7 = true := by kernel_rfl
theorem evFnPairFar_9 (B : Blk) : okA_FnPairFar B [40, 40, 40, 40, 41, 40, 41, 41, 40, 41, 41, 40, 41, 41] Go.AI.Q.PLx = true := by rw [pl_eq]; exact okA_app (evFnPairFar_9_0 B) (okA_app (evFnPairFar_9_1 B) (okA_app (evFnPairFar_9_2 B) (okA_app (evFnPairFar_9_3 B) (okA_app (evFnPairFar_9_4 B) (okA_app (evFnPairFar_9_5 B) (okA_app (evFnPairFar_9_6 B) (evFnPairFar_9_7 B)))))))
end
end Go.AI.T
