/- The evaluation, part 7. -/
import Derived.Test.YtjnmogmddhichaaFnPairFarBad
import Derived.KernelRfl
namespace Go.AI.T
open Go Go.RowKit Go.AI
set_option linter.unusedVariables false
set_option linter.unusedSimpArgs false
set_option maxRecDepth 100000
noncomputable section
theorem evFnPairFar_17_0 (B : Blk) : okA_FnPairFar B [40, 40, 40, 41, 40, 40, 41, 40, 41, 41, 41, 40, 40, 41, 40, 41, 41, 41] CH0 = true := by kernel_rfl
theorem evFnPairFar_17_1 (B : Blk) : okA_FnPairFar B [40, 40, 40, 41, 40, 40, 41, 40, 41, 41, 41, 40, 40, 41, 40, 41, 41, 41] CH1 = true := by kernel_rfl
theorem evFnPairFar_17_2 (B : Blk) : okA_FnPairFar B [40, 40, 40, 41, 40, 40, 41, 40, 41, 41, 41, 40, 40, 41, 40, 41, 41, 41] CH2 = true := by kernel_rfl
theorem evFnPairFar_17_3 (B : Blk) : okA_FnPairFar B [40, 40, 40, 41, 40, 40, 41, 40, 41, 41, 41, 40, 40, 41, 40, 41, 41, 41] CH3 = true := by kernel_rfl
theorem evFnPairFar_17_4 (B : Blk) : okA_FnPairFar B [40, 40, 40, 41, 40, 40, 41, 40, 41, 41, 41, 40, 40, 41, 40, 41, 41, 41] CH4 = true := by kernel_rfl
theorem evFnPairFar_17_5 (B : Blk) : okA_FnPairFar B [40, 40, 40, 41, 40, 40, 41, 40, 41, 41, 41, 40, 40, 41, 40, 41, 41, 41] CH5 = true := by kernel_rfl
theorem evFnPairFar_17_6 (B : Blk) : okA_FnPairFar B [40, 40, 40, 41, 40, 40, 41, 40, 41, 41, 41, 40, 40, 41, 40, 41, 41, 41] CH6 = true := by kernel_rfl
theorem evFnPairFar_17_7 (B : Blk) : okA_FnPairFar B [40, 40, 40, 41, 40, 40, 41, 40, 41, 41, 41, 40, 40, 41, 40, 41, 41, 41] CH7 = true := by kernel_rfl
theorem evFnPairFar_17 (B : Blk) : okA_FnPairFar B [40, 40, 40, 41, 40, 40, 41, 40, 41, 41, 41, 40, 40, 41, 40, 41, 41, 41] Go.AI.Q.PLx = true := by rw [pl_eq]; exact okA_app (evFnPairFar_17_0 B) (okA_app (evFnPairFar_17_1 B) (okA_app (evFnPairFar_17_2 B) (okA_app (evFnPairFar_17_3 B) (okA_app (evFnPairFar_17_4 B) (okA_app (evFnPairFar_17_5 B) (okA_app (evFnPairFar_17_6 B) (evFnPairFar_17_7 B)))))))
theorem evFnPairFar_6_0 (B : Blk) : okA_FnPairFar B [40, 40, 41, 40, 40, 40, 41, 40, 41, 41, 40, 41, 41, 41] CH0 = true := by kernel_rfl
theorem evFnPairFar_6_1 (B : Blk) : okA_FnPairFar B [40, 40, 41, 40, 40, 40, 41, 40, 41, 41, 40, 41, 41, 41] CH1 = true := by kernel_rfl
theorem evFnPairFar_6_2 (B : Blk) : okA_FnPairFar B [40, 40, 41, 40, 40, 40, 41, 40, 41, 41, 40, 41, 41, 41] CH2 = true := by kernel_rfl
theorem evFnPairFar_6_3 (B : Blk) : okA_FnPairFar B [40, 40, 41, 40, 40, 40, 41, 40, 41, 41, 40, 41, 41, 41] CH3 = true := by kernel_rfl
theorem evFnPairFar_6_4 (B : Blk) : okA_FnPairFar B [40, 40, 41, 40, 40, 40, 41, 40, 41, 41, 40, 41, 41, 41] CH4 = true := by kernel_rfl
theorem evFnPairFar_6_5 (B : Blk) : okA_FnPairFar B [40, 40, 41, 40, 40, 40, 41, 40, 41, 41, 40, 41, 41, 41] CH5 = true := by kernel_rfl
theorem evFnPairFar_6_6 (B : Blk) : okA_FnPairFar B [40, 40, 41, 40, 40, 40, 41, 40, 41, 41, 40, 41, 41, 41] CH6 = true := by kernel_rfl
theorem evFnPairFar_6_7 (B : Blk) : okA_FnPairFar B [40, 40, 41, 40, 40, 40, 41, 40, 41, 41, 40, 41, 41, 41] CH7 = true := by kernel_rfl
theorem evFnPairFar_6 (B : Blk) : okA_FnPairFar B [40, 40, 41, 40, 40, 40, 41, 40, 41, 41, 40, 41, 41, 41] Go.AI.Q.PLx = true := by rw [pl_eq]; exact okA_app (evFnPairFar_6_0 B) (okA_app (evFnPairFar_6_1 B) (okA_app (evFnPairFar_6_2 B) (okA_app (evFnPairFar_6_3 B) (okA_app (evFnPairFar_6_4 B) (okA_app (evFnPairFar_6_5 B) (okA_app (evFnPairFar_6_6 B) (evFnPairFar_6_7 B)))))))
theorem evFnPairFar_0_0 (B : Blk) : okA_FnPairFar B [] CH0 = true := by kernel_rfl
theorem evFnPairFar_0_1 (B : Blk) : okA_FnPairFar B [] CH1 = true := by kernel_rfl
theorem evFnPairFar_0_2 (B : Blk) : okA_FnPairFar B [] CH2 = true := by kernel_rfl
theorem evFnPairFar_0_3 (B : Blk) : okA_FnPairFar B [] CH3 = true := by kernel_rfl
theorem evFnPairFar_0_4 (B : Blk) : okA_FnPairFar B [] CH4 = true := by kernel_rfl
theorem evFnPairFar_0_5 (B : Blk) : okA_FnPairFar B [] CH5 = true := by kernel_rfl
theorem evFnPairFar_0_6 (B : Blk) : okA_FnPairFar B [] CH6 = true := by kernel_rfl
theorem evFnPairFar_0_7 (B : Blk) : okA_FnPairFar B [] CH7 = true := by kernel_rfl
theorem evFnPairFar_0 (B : Blk) : okA_FnPairFar B [] Go.AI.Q.PLx = true := by rw [pl_eq]; exact okA_app (evFnPairFar_0_0 B) (okA_app (evFnPairFar_0_1 B) (okA_app (evFnPairFar_0_2 B) (okA_app (evFnPairFar_0_3 B) (okA_app (evFnPairFar_0_4 B) (okA_app (evFnPairFar_0_5 B) (okA_app (evFnPairFar_0_6 B) (evFnPairFar_0_7 B)))))))
end
end Go.AI.T
