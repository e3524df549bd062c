/- The evaluation, part 1. -/
import Derived.Test.YtjnmogmddhichaaPairFarBad
import Derived.KernelRfl
namespace Go.AI.T
open Go Go.RowKit Go.AI
set_option linter.unusedVariables false
set_option linter.unusedSimpArgs false
set_option maxRecDepth 100000
noncomputable section
theorem evPairFar_10_0 : okA_PairFar [40, 40, 41, 40, 40, 41, 40, 40, 40, 41, 40, 41, 41, 40, 41, 41, 41, 41] CH0 = true := by kernel_rfl
theorem evPairFar_10_1 : okA_PairFar [40, 40, 41, 40, 40, 41, 40, 40, 40, 41, 40, 41, 41, 40, 41, 41, 41, 41] CH1 = true := by kernel_rfl
theorem evPairFar_10_2 : okA_PairFar [40, 40, 41, 40, 40, 41, 40, 40, 40, 41, 40, 41, 41, 40, 41, 41, 41, 41] CH2 = true := by kernel_rfl
theorem evPairFar_10_3 : okA_PairFar [40, 40, 41, 40, 40, 41, 40, 40, 40, 41, 40, 41, 41, 40, 41, 41, 41, 41] CH3 = true := by kernel_rfl
theorem evPairFar_10_4 : okA_PairFar [40, 40, 41, 40, 40, 41, 40, 40, 40, 41, 40, 41, 41, 40, 41, 41, 41, 41] CH4 = true := by kernel_rfl
theorem evPairFar_10_5 : okA_PairFar [40, 40, 41, 40, 40, 41, 40, 40, 40, 41, 40, 41, 41, 40, 41, 41, 41, 41] CH5 = true := by kernel_rfl
theorem evPairFar_10_6 : okA_PairFar [40, 40, 41, 40, 40, 41, 40, 40, 40, 41, 40, 41, 41, 40, 41, 41, 41, 41] CH6 = true := by kernel_rfl
theorem evPairFar_10_7 : okA_PairFar [40, 40, 41, 40, 40, 41, 40, 40, 40, 41, 40, 41, 41, 40, 41, 41, 41, 41] CH7 = true := by kernel_rfl
theorem evPairFar_10 : okA_PairFar [40, 40, 41, 40, 40, 41, 40, 40, 40, 41, 40, 41, 41, 40, 41, 41, 41, 41] PL = true := by rw [pl_eq]; exact okA_app evPairFar_10_0 (okA_app evPairFar_10_1 (okA_app evPairFar_10_2 (okA_app evPairFar_10_3 (okA_app evPairFar_10_4 (okA_app evPairFar_10_5 (okA_app evPairFar_10_6 (evPairFar_10_7)))))))
theorem evPairFar_16_0 : okA_PairFar [40, 40, 40, 41, 40, 40, 41, 40, 41, 41, 41, 40, 40, 41, 40, 41, 41, 41] CH0 = true := by kernel_rfl
theorem evPairFar_16_1 : okA_PairFar [40, 40, 40, 41, 40, 40, 41, 40, 41, 41, 41, 40, 40, 41, 40, 41, 41, 41] CH1 = true := by kernel_rfl
theorem evPairFar_16_2 : okA_PairFar [40, 40, 40, 41, 40, 40, 41, 40, 41, 41, 41, 40, 40, 41, 40, 41, 41, 41] CH2 = true := by kernel_rfl
theorem evPairFar_16_3 : okA_PairFar [40, 40, 40, 41, 40, 40, 41, 40, 41, 41, 41, 40, 40, 41, 40, 41, 41, 41] CH3 = true := by kernel_rfl
theorem evPairFar_16_4 : okA_PairFar [40, 40, 40, 41, 40, 40, 41, 40, 41, 41, 41, 40, 40, 41, 40, 41, 41, 41] CH4 = true := by kernel_rfl
theorem evPairFar_16_5 : okA_PairFar [40, 40, 40, 41, 40, 40, 41, 40, 41, 41, 41, 40, 40, 41, 40, 41, 41, 41] CH5 = true := by kernel_rfl
theorem evPairFar_16_6 : okA_PairFar [40, 40, 40, 41, 40, 40, 41, 40, 41, 41, 41, 40, 40, 41, 40, 41, 41, 41] CH6 = true := by kernel_rfl
theorem evPairFar_16_7 : okA_PairFar [40, 40, 40, 41, 40, 40, 41, 40, 41, 41, 41, 40, 40, 41, 40, 41, 41, 41] CH7 = true := by kernel_rfl
theorem evPairFar_16 : okA_PairFar [40, 40, 40, 41, 40, 40, 41, 40, 41, 41, 41, 40, 40, 41, 40, 41, 41, 41] PL = true := by rw [pl_eq]; exact okA_app evPairFar_16_0 (okA_app evPairFar_16_1 (okA_app evPairFar_16_2 (okA_app evPairFar_16_3 (okA_app evPairFar_16_4 (okA_app evPairFar_16_5 (okA_app evPairFar_16_6 (evPairFar_16_7)))))))
theorem evPairFar_22_0 : okA_PairFar [40, 40, 40, 40, 40, 41, 40, 41, 41, 40, 41, 41, 40, 41, 41, 40, 41, 41] CH0 = true := by kernel_rfl
theorem evPairFar_22_1 : okA_PairFar [40, 40, 40, 40, 40, 41, 40, 41, 41, 40, 41, 41, 40, 41, 41, 40, 41, 41] CH1 = true := by kernel_rfl
theorem evPairFar_22_2 : okA_PairFar [40, 40, 40, 40, 40, 41, 40, 41, 41, 40, 41, 41, 40, 41, 41, 40, 41, 41] CH2 = true := by kernel_rfl
theorem evPairFar_22_3 : okA_PairFar [40, 40, 40, 40, 40, 41, 40, 41, 41, 40, 41, 41, 40, 41, 41, 40, 41, 41] CH3 = true := by kernel_rfl
theorem evPairFar_22_4 : okA_PairFar [40, 40, 40, 40, 40, 41, 40, 41, 41, 40, 41, 41, 40, 41, 41, 40, 41, 41] CH4 = true := by kernel_rfl
theorem evPairFar_22_5 : okA_PairFar [40, 40, 40, 40, 40, 41, 40, 41, 41, 40, 41, 41, 40, 41, 41, 40, 41, 41] CH5 = true := by kernel_rfl
theorem evPairFar_22_6 : okA_PairFar [40, 40, 40, 40, 40, 41, 40, 41, 41, 40, 41, 41, 40, 41, 41, 40, 41, 41] CH6 = true := by kernel_rfl
theorem evPairFar_22_7 : okA_PairFar [40, 40, 40, 40, 40, 41, 40, 41, 41, 40, 41, 41, 40, 41, 41, 40, 41, 41] CH7 = true := by kernel_rfl
theorem evPairFar_22 : okA_PairFar [40, 40, 40, 40, 40, 41, 40, 41, 41, 40, 41, 41, 40, 41, 41, 40, 41, 41] PL = true := by rw [pl_eq]; exact okA_app evPairFar_22_0 (okA_app evPairFar_22_1 (okA_app evPairFar_22_2 (okA_app evPairFar_22_3 (okA_app evPairFar_22_4 (okA_app evPairFar_22_5 (okA_app evPairFar_22_6 (evPairFar_22_7)))))))
theorem evPairFar_2_0 : okA_PairFar [40, 40, 41, 40, 40, 41, 40, 41, 41, 41] CH0 = true := by kernel_rfl
theorem evPairFar_2_1 : okA_PairFar [40, 40, 41, 40, 40, 41, 40, 41, 41, 41] CH1 = true := by kernel_rfl
theorem evPairFar_2_2 : okA_PairFar [40, 40, 41, 40, 40, 41, 40, 41, 41, 41] CH2 = true := by kernel_rfl
theorem evPairFar_2_3 : okA_PairFar [40, 40, 41, 40, 40, 41, 40, 41, 41, 41] CH3 = true := by kernel_rfl
theorem evPairFar_2_4 : okA_PairFar [40, 40, 41, 40, 40, 41, 40, 41, 41, 41] CH4 = true := by kernel_rfl
theorem evPairFar_2_5 : okA_PairFar [40, 40, 41, 40, 40, 41, 40, 41, 41, 41] CH5 = true := by kernel_rfl
theorem evPairFar_2_6 : okA_PairFar [40, 40, 41, 40, 40, 41, 40, 41, 41, 41] CH6 = true := by kernel_rfl
theorem evPairFar_2_7 : okA_PairFar [40, 40, 41, 40, 40, 41, 40, 41, 41, 41] CH7 = true := by kernel_rfl
theorem evPairFar_2 : okA_PairFar [40, 40, 41, 40, 40, 41, 40, 41, 41, 41] PL = true := by rw [pl_eq]; exact okA_app evPairFar_2_0 (okA_app evPairFar_2_1 (okA_app evPairFar_2_2 (okA_app evPairFar_2_3 (okA_app evPairFar_2_4 (okA_app evPairFar_2_5 (okA_app evPairFar_2_6 (evPairFar_2_7)))))))
end
end Go.AI.T
