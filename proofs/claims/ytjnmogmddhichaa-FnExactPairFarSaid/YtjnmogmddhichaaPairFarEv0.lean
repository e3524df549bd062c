/- The evaluation, part 0. -/
import Derived.Test.YtjnmogmddhichaaPairFarBad
import Derived.KernelRfl
namespace Go.AI.T
open Go Go.RowKit Go.AI
set_option linter.unusedVariables false
set_option linter.unusedSimpArgs false
set_option maxRecDepth 100000
noncomputable section
theorem evPairFar_9_0 : okA_PairFar [40, 40, 41, 40, 40, 41, 40, 40, 41, 40, 40, 41, 40, 41, 41, 41, 41, 41] CH0 = true := by kernel_rfl
theorem evPairFar_9_1 : okA_PairFar [40, 40, 41, 40, 40, 41, 40, 40, 41, 40, 40, 41, 40, 41, 41, 41, 41, 41] CH1 = true := by kernel_rfl
theorem evPairFar_9_2 : okA_PairFar [40, 40, 41, 40, 40, 41, 40, 40, 41, 40, 40, 41, 40, 41, 41, 41, 41, 41] CH2 = true := by kernel_rfl
theorem evPairFar_9_3 : okA_PairFar [40, 40, 41, 40, 40, 41, 40, 40, 41, 40, 40, 41, 40, 41, 41, 41, 41, 41] CH3 = true := by kernel_rfl
theorem evPairFar_9_4 : okA_PairFar [40, 40, 41, 40, 40, 41, 40, 40, 41, 40, 40, 41, 40, 41, 41, 41, 41, 41] CH4 = true := by kernel_rfl
theorem evPairFar_9_5 : okA_PairFar [40, 40, 41, 40, 40, 41, 40, 40, 41, 40, 40, 41, 40, 41, 41, 41, 41, 41] CH5 = true := by kernel_rfl
theorem evPairFar_9_6 : okA_PairFar [40, 40, 41, 40, 40, 41, 40, 40, 41, 40, 40, 41, 40, 41, 41, 41, 41, 41] CH6 = true := by kernel_rfl
theorem evPairFar_9_7 : okA_PairFar [40, 40, 41, 40, 40, 41, 40, 40, 41, 40, 40, 41, 40, 41, 41, 41, 41, 41] CH7 = true := by kernel_rfl
theorem evPairFar_9 : okA_PairFar [40, 40, 41, 40, 40, 41, 40, 40, 41, 40, 40, 41, 40, 41, 41, 41, 41, 41] PL = true := by rw [pl_eq]; exact okA_app evPairFar_9_0 (okA_app evPairFar_9_1 (okA_app evPairFar_9_2 (okA_app evPairFar_9_3 (okA_app evPairFar_9_4 (okA_app evPairFar_9_5 (okA_app evPairFar_9_6 (evPairFar_9_7)))))))
theorem evPairFar_15_0 : okA_PairFar [40, 40, 40, 41, 40, 41, 41, 40, 40, 40, 41, 40, 41, 41, 40, 41, 41, 41] CH0 = true := by kernel_rfl
theorem evPairFar_15_1 : okA_PairFar [40, 40, 40, 41, 40, 41, 41, 40, 40, 40, 41, 40, 41, 41, 40, 41, 41, 41] CH1 = true := by kernel_rfl
theorem evPairFar_15_2 : okA_PairFar [40, 40, 40, 41, 40, 41, 41, 40, 40, 40, 41, 40, 41, 41, 40, 41, 41, 41] CH2 = true := by kernel_rfl
theorem evPairFar_15_3 : okA_PairFar [40, 40, 40, 41, 40, 41, 41, 40, 40, 40, 41, 40, 41, 41, 40, 41, 41, 41] CH3 = true := by kernel_rfl
theorem evPairFar_15_4 : okA_PairFar [40, 40, 40, 41, 40, 41, 41, 40, 40, 40, 41, 40, 41, 41, 40, 41, 41, 41] CH4 = true := by kernel_rfl
theorem evPairFar_15_5 : okA_PairFar [40, 40, 40, 41, 40, 41, 41, 40, 40, 40, 41, 40, 41, 41, 40, 41, 41, 41] CH5 = true := by kernel_rfl
theorem evPairFar_15_6 : okA_PairFar [40, 40, 40, 41, 40, 41, 41, 40, 40, 40, 41, 40, 41, 41, 40, 41, 41, 41] CH6 = true := by kernel_rfl
theorem evPairFar_15_7 : okA_PairFar [40, 40, 40, 41, 40, 41, 41, 40, 40, 40, 41, 40, 41, 41, 40, 41, 41, 41] CH7 = true := by kernel_rfl
theorem evPairFar_15 : okA_PairFar [40, 40, 40, 41, 40, 41, 41, 40, 40, 40, 41, 40, 41, 41, 40, 41, 41, 41] PL = true := by rw [pl_eq]; exact okA_app evPairFar_15_0 (okA_app evPairFar_15_1 (okA_app evPairFar_15_2 (okA_app evPairFar_15_3 (okA_app evPairFar_15_4 (okA_app evPairFar_15_5 (okA_app evPairFar_15_6 (evPairFar_15_7)))))))
theorem evPairFar_21_0 : okA_PairFar [40, 40, 40, 40, 41, 40, 40, 41, 40, 41, 41, 41, 40, 41, 41, 40, 41, 41] CH0 = true := by kernel_rfl
theorem evPairFar_21_1 : okA_PairFar [40, 40, 40, 40, 41, 40, 40, 41, 40, 41, 41, 41, 40, 41, 41, 40, 41, 41] CH1 = true := by kernel_rfl
theorem evPairFar_21_2 : okA_PairFar [40, 40, 40, 40, 41, 40, 40, 41, 40, 41, 41, 41, 40, 41, 41, 40, 41, 41] CH2 = true := by kernel_rfl
theorem evPairFar_21_3 : okA_PairFar [40, 40, 40, 40, 41, 40, 40, 41, 40, 41, 41, 41, 40, 41, 41, 40, 41, 41] CH3 = true := by kernel_rfl
theorem evPairFar_21_4 : okA_PairFar [40, 40, 40, 40, 41, 40, 40, 41, 40, 41, 41, 41, 40, 41, 41, 40, 41, 41] CH4 = true := by kernel_rfl
theorem evPairFar_21_5 : okA_PairFar [40, 40, 40, 40, 41, 40, 40, 41, 40, 41, 41, 41, 40, 41, 41, 40, 41, 41] CH5 = true := by kernel_rfl
theorem evPairFar_21_6 : okA_PairFar [40, 40, 40, 40, 41, 40, 40, 41, 40, 41, 41, 41, 40, 41, 41, 40, 41, 41] CH6 = true := by kernel_rfl
theorem evPairFar_21_7 : okA_PairFar [40, 40, 40, 40, 41, 40, 40, 41, 40, 41, 41, 41, 40, 41, 41, 40, 41, 41] CH7 = true := by kernel_rfl
theorem evPairFar_21 : okA_PairFar [40, 40, 40, 40, 41, 40, 40, 41, 40, 41, 41, 41, 40, 41, 41, 40, 41, 41] PL = true := by rw [pl_eq]; exact okA_app evPairFar_21_0 (okA_app evPairFar_21_1 (okA_app evPairFar_21_2 (okA_app evPairFar_21_3 (okA_app evPairFar_21_4 (okA_app evPairFar_21_5 (okA_app evPairFar_21_6 (evPairFar_21_7)))))))
theorem evPairFar_8_0 : okA_PairFar [40, 40, 40, 40, 41, 40, 41, 41, 40, 41, 41, 40, 41, 41] CH0 = true := by kernel_rfl
theorem evPairFar_8_1 : okA_PairFar [40, 40, 40, 40, 41, 40, 41, 41, 40, 41, 41, 40, 41, 41] CH1 = true := by kernel_rfl
theorem evPairFar_8_2 : okA_PairFar [40, 40, 40, 40, 41, 40, 41, 41, 40, 41, 41, 40, 41, 41] CH2 = true := by kernel_rfl
theorem evPairFar_8_3 : okA_PairFar [40, 40, 40, 40, 41, 40, 41, 41, 40, 41, 41, 40, 41, 41] CH3 = true := by kernel_rfl
theorem evPairFar_8_4 : okA_PairFar [40, 40, 40, 40, 41, 40, 41, 41, 40, 41, 41, 40, 41, 41] CH4 = true := by kernel_rfl
theorem evPairFar_8_5 : okA_PairFar [40, 40, 40, 40, 41, 40, 41, 41, 40, 41, 41, 40, 41, 41] CH5 = true := by kernel_rfl
theorem evPairFar_8_6 : okA_PairFar [40, 40, 40, 40, 41, 40, 41, 41, 40, 41, 41, 40, 41, 41] CH6 = true := by kernel_rfl
theorem evPairFar_8_7 : okA_PairFar [40, 40, 40, 40, 41, 40, 41, 41, 40, 41, 41, 40, 41, 41] CH7 = true := by kernel_rfl
theorem evPairFar_8 : okA_PairFar [40, 40, 40, 40, 41, 40, 41, 41, 40, 41, 41, 40, 41, 41] PL = true := by rw [pl_eq]; exact okA_app evPairFar_8_0 (okA_app evPairFar_8_1 (okA_app evPairFar_8_2 (okA_app evPairFar_8_3 (okA_app evPairFar_8_4 (okA_app evPairFar_8_5 (okA_app evPairFar_8_6 (evPairFar_8_7)))))))
end
end Go.AI.T
