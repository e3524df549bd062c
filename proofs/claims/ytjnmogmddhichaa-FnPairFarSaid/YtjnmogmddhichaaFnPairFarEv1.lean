/- The evaluation, part 1. -/
import Derived.Test.YtjnmogmddhichaaFnPairFarBad
import Derived.KernelRfl
namespace Go.AI.T
open Go Go.RowKit Go.AI
set_option linter.unusedVariables false
set_option linter.unusedSimpArgs false
set_option maxRecDepth 100000
noncomputable section
theorem evFnPairFar_11_0 (B : Blk) : okA_FnPairFar B [40, 40, 41, 40, 40, 41, 40, 40, 40, 41, 40, 41, 41, 40, 41, 41, 41, 41] CH0 = true := by kernel_rfl
theorem evFnPairFar_11_1 (B : Blk) : okA_FnPairFar B [40, 40, 41, 40, 40, 41, 40, 40, 40, 41, 40, 41, 41, 40, 41, 41, 41, 41] CH1 = true := by kernel_rfl
theorem evFnPairFar_11_2 (B : Blk) : okA_FnPairFar B [40, 40, 41, 40, 40, 41, 40, 40, 40, 41, 40, 41, 41, 40, 41, 41, 41, 41] CH2 = true := by kernel_rfl
theorem evFnPairFar_11_3 (B : Blk) : okA_FnPairFar B [40, 40, 41, 40, 40, 41, 40, 40, 40, 41, 40, 41, 41, 40, 41, 41, 41, 41] CH3 = true := by kernel_rfl
theorem evFnPairFar_11_4 (B : Blk) : okA_FnPairFar B [40, 40, 41, 40, 40, 41, 40, 40, 40, 41, 40, 41, 41, 40, 41, 41, 41, 41] CH4 = true := by kernel_rfl
theorem evFnPairFar_11_5 (B : Blk) : okA_FnPairFar B [40, 40, 41, 40, 40, 41, 40, 40, 40, 41, 40, 41, 41, 40, 41, 41, 41, 41] CH5 = true := by kernel_rfl
theorem evFnPairFar_11_6 (B : Blk) : okA_FnPairFar B [40, 40, 41, 40, 40, 41, 40, 40, 40, 41, 40, 41, 41, 40, 41, 41, 41, 41] CH6 = true := by kernel_rfl
theorem evFnPairFar_11_7 (B : Blk) : okA_FnPairFar B [40, 40, 41, 40, 40, 41, 40, 40, 40, 41, 40, 41, 41, 40, 41, 41, 41, 41] CH7 = true := by kernel_rfl
theorem evFnPairFar_11 (B : Blk) : okA_FnPairFar B [40, 40, 41, 40, 40, 41, 40, 40, 40, 41, 40, 41, 41, 40, 41, 41, 41, 41] Go.AI.Q.PLx = true := by rw [pl_eq]; exact okA_app (evFnPairFar_11_0 B) (okA_app (evFnPairFar_11_1 B) (okA_app (evFnPairFar_11_2 B) (okA_app (evFnPairFar_11_3 B) (okA_app (evFnPairFar_11_4 B) (okA_app (evFnPairFar_11_5 B) (okA_app (evFnPairFar_11_6 B) (evFnPairFar_11_7 B)))))))
theorem evFnPairFar_19_0 (B : Blk) : okA_FnPairFar B [40, 40, 40, 41, 40, 40, 41, 40, 40, 41, 40, 41, 41, 41, 41, 40, 41, 41] CH0 = true := by kernel_rfl
theorem evFnPairFar_19_1 (B : Blk) : okA_FnPairFar B [40, 40, 40, 41, 40, 40, 41, 40, 40, 41, 40, 41, 41, 41, 41, 40, 41, 41] CH1 = true := by kernel_rfl
theorem evFnPairFar_19_2 (B : Blk) : okA_FnPairFar B [40, 40, 40, 41, 40, 40, 41, 40, 40, 41, 40, 41, 41, 41, 41, 40, 41, 41] CH2 = true := by kernel_rfl
theorem evFnPairFar_19_3 (B : Blk) : okA_FnPairFar B [40, 40, 40, 41, 40, 40, 41, 40, 40, 41, 40, 41, 41, 41, 41, 40, 41, 41] CH3 = true := by kernel_rfl
theorem evFnPairFar_19_4 (B : Blk) : okA_FnPairFar B [40, 40, 40, 41, 40, 40, 41, 40, 40, 41, 40, 41, 41, 41, 41, 40, 41, 41] CH4 = true := by kernel_rfl
theorem evFnPairFar_19_5 (B : Blk) : okA_FnPairFar B [40, 40, 40, 41, 40, 40, 41, 40, 40, 41, 40, 41, 41, 41, 41, 40, 41, 41] CH5 = true := by kernel_rfl
theorem evFnPairFar_19_6 (B : Blk) : okA_FnPairFar B [40, 40, 40, 41, 40, 40, 41, 40, 40, 41, 40, 41, 41, 41, 41, 40, 41, 41] CH6 = true := by kernel_rfl
theorem evFnPairFar_19_7 (B : Blk) : okA_FnPairFar B [40, 40, 40, 41, 40, 40, 41, 40, 40, 41, 40, 41, 41, 41, 41, 40, 41, 41] CH7 = true := by kernel_rfl
theorem evFnPairFar_19 (B : Blk) : okA_FnPairFar B [40, 40, 40, 41, 40, 40, 41, 40, 40, 41, 40, 41, 41, 41, 41, 40, 41, 41] Go.AI.Q.PLx = true := by rw [pl_eq]; exact okA_app (evFnPairFar_19_0 B) (okA_app (evFnPairFar_19_1 B) (okA_app (evFnPairFar_19_2 B) (okA_app (evFnPairFar_19_3 B) (okA_app (evFnPairFar_19_4 B) (okA_app (evFnPairFar_19_5 B) (okA_app (evFnPairFar_19_6 B) (evFnPairFar_19_7 B)))))))
theorem evFnPairFar_8_0 (B : Blk) : okA_FnPairFar B [40, 40, 40, 41, 40, 40, 41, 40, 41, 41, 41, 40, 41, 41] CH0 = true := by kernel_rfl
theorem evFnPairFar_8_1 (B : Blk) : okA_FnPairFar B [40, 40, 40, 41, 40, 40, 41, 40, 41, 41, 41, 40, 41, 41] CH1 = true := by kernel_rfl
theorem evFnPairFar_8_2 (B : Blk) : okA_FnPairFar B [40, 40, 40, 41, 40, 40, 41, 40, 41, 41, 41, 40, 41, 41] CH2 = true := by kernel_rfl
theorem evFnPairFar_8_3 (B : Blk) : okA_FnPairFar B [40, 40, 40, 41, 40, 40, 41, 40, 41, 41, 41, 40, 41, 41] CH3 = true := by kernel_rfl
theorem evFnPairFar_8_4 (B : Blk) : okA_FnPairFar B [40, 40, 40, 41, 40, 40, 41, 40, 41, 41, 41, 40, 41, 41] CH4 = true := by kernel_rfl
theorem evFnPairFar_8_5 (B : Blk) : okA_FnPairFar B [40, 40, 40, 41, 40, 40, 41, 40, 41, 41, 41, 40, 41, 41] CH5 = true := by kernel_rfl
theorem evFnPairFar_8_6 (B : Blk) : okA_FnPairFar B [40, 40, 40, 41, 40, 40, 41, 40, 41, 41, 41, 40, 41, 41] CH6 = true := by kernel_rfl
theorem evFnPairFar_8_7 (B : Blk) : okA_FnPairFar B [40, 40, 40, 41, 40, 40, 41, 40, 41, 41, 41, 40, 41, 41] CH7 = true := by kernel_rfl
theorem evFnPairFar_8 (B : Blk) : okA_FnPairFar B [40, 40, 40, 41, 40, 40, 41, 40, 41, 41, 41, 40, 41, 41] Go.AI.Q.PLx = true := by rw [pl_eq]; exact okA_app (evFnPairFar_8_0 B) (okA_app (evFnPairFar_8_1 B) (okA_app (evFnPairFar_8_2 B) (okA_app (evFnPairFar_8_3 B) (okA_app (evFnPairFar_8_4 B) (okA_app (evFnPairFar_8_5 B) (okA_app (evFnPairFar_8_6 B) (evFnPairFar_8_7 B)))))))
end
end Go.AI.T
